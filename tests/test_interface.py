"""The names and arguments of the interface, each in the file under which it stands."""

import importlib
import inspect
import unittest

FUNCTIONS = {
    "checks": "is_integer(value) is_within(value,least,most) is_name(value) is_numbers(value)"
              " is_sign(value) first_twice(values) lowest(number,by) is_odd(row)",
    "papers": "fixed(value)",
    "sums": "sum_of(lots) sum_numbers(lots,lot) barring(lots,lot)",
    "bodies": "settings_of(web)",
    "joined": "joined(one,piece,other,its) taken_off(body,piece)",
    "branches": "core_of(web) middle(web) ahead_of(web,piece) hanging(web,piece)"
                " behind(web,piece,ahead)",
    "renamings": "renamings(web,other) is_renaming(web,other,row) put_together(one,other)"
                 " backwards(row) power(row,number)",
    "leading": "led(body,web,row) signed(web,other,row)",
    "codes": "code_of(body,piece,ahead) plain_code(web,piece,ahead) whole_code(body)"
             " entries_of(body,piece)",
    "refusing": "leading(one,other)",
    "check_renamings": "shows_leading(one,other,value)",
    "sameness": "same(one,other) mirrorlike(body)",
    "leastforms": "like_settings(body) least_setting(body) least_body(body)"
                  " same_sort(web,one,other)",
    "check_sameness": "shows_same(one,other,value) shows_mirrorlike(body,value)",
    "rounds": "rounds(web,row) left_by(web,row) left_in_mirror(web,row) kept_settings(web,row)"
              " kept_in_mirror(web,row)",
    "sorts": "sorts(web) mirrorlike_sorts(web) pairs_of(web) sort_at(web,number)"
             " number_of_sort(web,setting) counts(body,mark) sway(web,mark)",
    "counting": "means(web) many_sorts(web) many_mirrorlike(web) all_handless(web) by_codes(web)",
    "check_sorts": "shows_means(web,value) shows_sway(web,mark,value)",
    "places": "new_kind(web) kins(body) open_kins(body) tie_kins(body) alike(body,one,other)"
              " all_alike(body,ones,others)",
    "looks": "look(body) parted(web)",
    "flats": "flat_pieces(web) faced(body,piece,hand) faces(body,piece)",
    "check_places": "shows_alike(body,one,other,value) shows_all_alike(body,ones,others,value)"
                    " shows_faces(body,piece,value)",
    "pictures": "picture_of(body) rows_for(body,hub)",
    "ladders": "steps_between(one,other)",
    "wreaths": "ways_between(one,other)",
    "ranks": "plain_ranked(web,piece) ranked(body,piece)",
    "letters": "letters(body) stays(body) names_of(body) body_by(web,letters)",
    "check_names": "shows_names(body,value)",
    "turnings": "unlike_marks(one,other,row) fewest_turns(one,other) farthest(web)"
                " exchanged(body,hub,one,other)",
    "twists": "twist_sum(web,twists,numbers) twisted(body,twists,numbers) needless(web,twists)"
              " led_by(one,other,twists) fewest_twists(one,other,twists)",
    "reached": "reached(body,twists) joined_sorts(web,twists) are_joined(web,twists)",
    "check_twists": "shows_turns(one,other,value) shows_led_by(one,other,twists,value)",
    "mixtures": "alone(web,setting) even(web) mixed(one,other,share) told_apart(one,other)",
    "works": "handless(work) keeps_balance(work)",
    "helpers": "helped(web,piece,helper,its)",
    "check_mixtures": "shows_handless(work,value) shows_balance(work,value)",
    "sayings": "saying_of(text) holds_in(saying,body)",
    "answers": "fitting(told) fitting_sorts(told) judged(told,saying)",
    "asking": "fewest_sayings(told,saying) best_mark(told)",
    "check_sayings": "shows_judged(told,saying,value) shows_no_body(told,value)",
    "chains": "chain_sorts(many) chain_mirrorlike(many) wreath_sorts(many) wreath_mirrorlike(many)"
              " chain_least(setting) chain_at(many,number) number_of_chain(setting)"
              " wreath_least(setting) chain_body(setting) wreath_body(setting)",
    "windows": "windows(setting,width) chain_by(width,windows)",
    "check_chains": "shows_chain(width,windows,value)",
    "frames": "named_frame(name)",
    "framed": "framed(frame,neighbours) many_framed(frame,neighbours) mirror_framed(frame,neighbours)"
              " sort_framed(frame,seating) mirrored_seating(frame,seating) same_framed(frame,one,other)",
    "shifts": "shifted(frame,seating,shift) joined_framed(frame,neighbours,shift)"
              " way_framed(frame,one,other,shift)",
    "check_frames": "shows_framed(frame,one,other,value) shows_way(frame,one,other,shift,value)",
    "desk_lines": "read_line(line)",
    "desk_deeds": "changed(shelf,line)",
    "desk_asks": "answer_of(shelf,line)",
    "stories": "replay(lines) parting(one,other) merged(one,other)",
}
CLASSES = {
    "papers": "Paper(word,*parts) Denial(word,*parts)",
    "webs": "Web(kinds,ties,hubs=(),stiff=())",
    "bodies": "Body(web,setting)",
    "refusing": "Led(row) Refused(tree)",
    "sameness": "One(row) MirrorOf(row) Neither(tree,mirrored) Mirrorlike(row) Handed(tree)",
    "sorts": "Sway(how,counting,lacking)",
    "counting": "Means(rows)",
    "places": "Alike(row) MirrorAlike(row) Unlike(tree,mirrored)",
    "pictures": "Picture(web,rows,sides)",
    "ladders": "Ladder(top,rungs,bottom)",
    "wreaths": "Wreath(rungs)",
    "letters": "Names(letters,ranks)",
    "turnings": "Turns(lot,row)",
    "twists": "By(numbers,row) Barred(rows)",
    "mixtures": "Mixture(web,shares)",
    "works": "Work(web,rows) Handless() HandedAt(setting) KeepsBalance() Upsets(setting)",
    "sayings": "Product(lot,sign) IsMirrorlike(is_so=True) IsOne(setting,is_so=True) Told(web,sayings=())",
    "answers": "Summed(numbers) Tried(tree) Open(one,other) NeverSummed(numbers) NeverTried(tree)"
               " NoBody(tree)",
    "windows": "ChainBy(setting) NoChain(why,words)",
    "frames": "Frame(seats,swings,mirror)",
    "framed": "Swung(row) MirrorSwung(row) Unswung(seats,mirrored)",
    "shifts": "Shifts(steps,row) Shut(sorts)",
    "shelves": "Shelf(bodies=(),about=None,sayings=())",
    "desk": "Desk()",
}
METHODS = {
    ("webs", "Web"): "neighbours(self,piece) others(self,tie) seats(self,hub)"
                     " with_kind(self,piece,kind) renumbered(self,row) read(text)",
    ("bodies", "Body"): "hand(self,hub) side(self,tie) turned(self,lot) mirrored(self)"
                        " with_kind(self,piece,kind) renumbered(self,row) read(text)",
    ("pictures", "Picture"): "body(self) exchanged(self,hub,one,other) flipped(self,hub)"
                             " mirrored(self) from_behind(self)",
    ("ladders", "Ladder"): "body(self) picture(self) half_about(self) exchanged(self,rung)"
                           " mirrored(self) rolled(self,end) read(text)",
    ("wreaths", "Wreath"): "body(self) picture(self) begun_at(self,rung) exchanged(self,rung)"
                           " laid_over(self) mirrored(self) read(text)",
    ("mixtures", "Mixture"): "share(self,setting) mirrored(self)",
    ("works", "Work"): "after(self,mixture)",
    ("sayings", "Product"): "contrary(self)",
    ("sayings", "IsMirrorlike"): "contrary(self)",
    ("sayings", "IsOne"): "contrary(self)",
    ("sayings", "Told"): "with_saying(self,saying)",
    ("shelves", "Shelf"): "body(self,name)",
    ("desk", "Desk"): "told(self,*lines) tried(self,*lines) undo(self) redo(self) twin(self) __call__(self,line)"
                      " __len__(self) __contains__(self,value) __eq__(self,other)",
}


def told(made, name):
    return name + str(inspect.signature(made)).replace(" ", "")


class TestInterface(unittest.TestCase):
    def test_functions(self):
        for file, names in FUNCTIONS.items():
            module = importlib.import_module("otherhand." + file)
            for asked in names.split():
                name = asked.split("(")[0]
                made = getattr(module, name)
                self.assertEqual(told(made, name), asked)
                self.assertEqual(made.__module__, "otherhand." + file)

    def test_classes(self):
        for file, names in CLASSES.items():
            module = importlib.import_module("otherhand." + file)
            for asked in names.split():
                name = asked.split("(")[0]
                made = getattr(module, name)
                self.assertEqual(told(made, name), asked)
                self.assertEqual(made.__module__, "otherhand." + file)
                self.assertIn("__init__", vars(made))

    def test_methods(self):
        for (file, name), names in METHODS.items():
            made = getattr(importlib.import_module("otherhand." + file), name)
            for asked in names.split():
                method = asked.split("(")[0]
                self.assertIn(method, vars(made))
                self.assertEqual(told(getattr(made, method), method), asked)


if __name__ == "__main__":
    unittest.main()
