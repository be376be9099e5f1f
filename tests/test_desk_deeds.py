"""Deed lines and ask lines, against the functions and methods that they stand for."""

import random
import unittest

from otherhand.answers import NoBody, fitting, judged
from otherhand.asking import best_mark
from otherhand.bodies import Body
from otherhand.chains import chain_mirrorlike, chain_sorts, wreath_mirrorlike, wreath_sorts
from otherhand.counting import many_mirrorlike, many_sorts
from otherhand.desk_asks import answer_of
from otherhand.desk_deeds import changed
from otherhand.desk_lines import ASKS, DEEDS
from otherhand.errors import (
    BadDesk, BadNumber, BadText, BadWeb, HandError, Impossible, Misfit, NoMark, NoName, NoPiece, Nothing, TooMany,
    Twice,
)
from otherhand.flats import faces, flat_pieces
from otherhand.joined import joined, taken_off
from otherhand.leastforms import least_setting
from otherhand.letters import letters
from otherhand.places import alike, kins, open_kins
from otherhand.sameness import mirrorlike, same
from otherhand.sayings import IsMirrorlike, Product, Told
from otherhand.shelves import Shelf
from otherhand.sorts import counts, sway
from otherhand.turnings import exchanged, fewest_turns
from otherhand.webs import Web
from tests.helping import ODD_VALUES, Agreeing, Asking
from tests.oracle import any_body, any_web, neighbours, web_of
from tests.test_counting import BUSH
from tests.test_mixtures import NINE
from tests.test_sorts import FULL, STAR, TEN, TWELVE
from tests.test_answers import any_saying
from tests.test_turnings import PAIR, webs_with_marks

NAMES = ["a", "b", "c", "d9"]
SPEAKING = ["tell mirrorlike yes", "strike 0", "sayings", "saying 0", "fits", "judge mirrorlike yes", "best"]
NOTHING_FITS = Product([], -1)


WEBS = [web for web in webs_with_marks(1800, 60, 5) if web.marks]


def any_number(rng):
    return rng.choice((0, 0, 0, 1, 1, 1, 2, 2, 3, 3, 4, 5, 7, 20))


def some_body(rng):
    return any_body(rng, rng.choice(WEBS) if rng.random() < 0.6 else any_web(rng, most=6, hubs=rng.choice((0.2, 0.8))))


def any_deed(rng, bodies, about, sayings):
    """A deed line, and what it makes of what a shelf keeps by the functions: the shelf and the answer.

    Where an error is due, this raises it.
    """
    word = rng.choice(DEEDS)
    old, new = rng.choice(NAMES + ["z"]), rng.choice(NAMES + ["n1", "n2"])
    numbers = [any_number(rng) for _ in range(rng.randint(1, 3))]
    piece = numbers[0]
    told = " ".join(map(str, numbers))

    def kept(name):
        if name not in bodies:
            raise NoName(name)
        return bodies[name]

    def shelf(made, web=about, said=sayings):
        return Shelf(list(made.items()), web, said)

    def unless_kept(name):
        if name in bodies:
            raise Twice(name)

    def with_body(body):
        return shelf({**bodies, old: body}), str(body)

    if word == "put":
        body = any_body(rng, any_web(rng, most=6))

        def put():
            unless_kept(new)
            return shelf({**bodies, new: body}), str(len(bodies) + 1)
        return f"put {new} {body}", put
    if word == "kind":
        kind = rng.choice("abx")
        return f"kind {old} {piece} {kind}", lambda: with_body(kept(old).with_kind(piece, kind))
    if word == "turn":
        return f"turn {old} {told}", lambda: with_body(kept(old).turned(numbers))
    if word == "mirror":
        return f"mirror {old}", lambda: with_body(kept(old).mirrored())
    if word == "exchange":
        three = [any_number(rng) for _ in range(3)]
        if old in bodies and rng.random() < 0.5 and bodies[old].web.hubs:
            hub = rng.choice(bodies[old].web.hubs)
            three = [hub, *rng.sample(neighbours(bodies[old].web, hub), 2)]
        return (f"exchange {old} {three[0]} {three[1]} {three[2]}",
                lambda: with_body(exchanged(kept(old), *three)))
    if word == "off":
        return f"off {old} {piece}", lambda: with_body(taken_off(kept(old), piece))
    if word == "join":
        other, its = rng.choice(NAMES), any_number(rng)

        def join():
            one, second = kept(old), kept(other)
            unless_kept(new)
            made = joined(one, piece, second, its)
            return shelf({**bodies, new: made}), str(len(bodies) + 1)
        return f"join {new} {old} {piece} {other} {its}", join
    if word == "drop":
        return f"drop {old}", lambda: (kept(old), (shelf({name: body for name, body in bodies.items() if name != old}),
                                                   str(len(bodies) - 1)))[1]
    if word == "about":
        return f"about {old}", lambda: (shelf(bodies, kept(old).web, ()), str(len(kept(old).web.marks)))
    if word == "tell":
        saying = any_saying(rng, rng.choice([PAIR, STAR] + [body.web for body in bodies.values()]))

        def tell():
            if about is None:
                raise Nothing()
            return shelf(bodies, about, [*sayings, saying]), str(len(sayings))
        return f"tell {saying}", tell

    def strike():
        if about is None:
            raise Nothing()
        for number in numbers:
            if number >= len(sayings):
                raise BadNumber("number")
        for at, number in enumerate(numbers):
            if number in numbers[:at]:
                raise Twice(number)
        left = [saying for at, saying in enumerate(sayings) if at not in numbers]
        return shelf(bodies, about, left), str(len(left))
    return f"strike {told}", strike


def in_line(values):
    return " ".join(map(str, values)) or "-"


def any_ask(rng, shelf):
    """An ask line, and the answer by the functions; an error where one is due."""
    word = rng.choice(ASKS)
    one, other = rng.choice(NAMES + ["z"]), rng.choice(NAMES)
    number, further = any_number(rng), any_number(rng)
    words = {"One": "one", "MirrorOf": "mirror", "Neither": "neither", "Alike": "alike", "MirrorAlike": "mirror",
             "Unlike": "unlike", "Summed": "surely", "Tried": "surely", "NeverSummed": "never", "NeverTried": "never",
             "Open": "open"}

    def told(paper):
        return words[type(paper).__name__]

    def about():
        if shelf.about is None:
            raise Nothing()
        return Told(shelf.about, shelf.sayings)

    def web(name):
        return shelf.body(name).web

    def saying_at():
        about()
        if number >= len(shelf.sayings):
            raise BadNumber("number")
        return str(shelf.sayings[number])

    saying = any_saying(rng, rng.choice([shelf.about or PAIR, shelf.about or STAR, PAIR]))
    if one in shelf.names and rng.random() < 0.7:
        number = rng.randrange(max(1, len(web(one).marks)))
    if word in ("same", "fewest") and shelf.names and rng.random() < 0.6:
        one, other = shelf.names[0], shelf.names[-1]
    if word == "faces" and rng.random() < 0.7:
        flat = [(name, piece) for name, body in shelf.bodies for piece in flat_pieces(body.web)]
        one, number = rng.choice(flat or [(one, number)])
    asked = {
        "names": ("", lambda: in_line(name for name, _ in shelf.bodies)),
        "show": (one, lambda: str(shelf.body(one))),
        "same": (f"{one} {other}", lambda: told(same(shelf.body(one), shelf.body(other)))),
        "mirrorlike": (one, lambda: "yes" if mirrorlike(shelf.body(one)) else "no"),
        "sorts": (one, lambda: f"{many_sorts(web(one))} {many_mirrorlike(web(one))}"),
        "counts": (f"{one} {number}", lambda: "yes" if counts(shelf.body(one), number) else "no"),
        "way": (f"{one} {number}", lambda: sway(web(one), number).how),
        "kins": (one, lambda: " / ".join(" ".join(map(str, kin)) for kin in kins(shelf.body(one)))),
        "open": (one, lambda: " / ".join(" ".join(map(str, kin)) for kin in open_kins(shelf.body(one)))),
        "alike": (f"{one} {number} {further}", lambda: told(alike(shelf.body(one), number, further))),
        "faces": (f"{one} {number}", lambda: told(faces(shelf.body(one), number))),
        "letters": (one, lambda: in_line(letters(shelf.body(one)))),
        "fewest": (f"{one} {other}", lambda: in_line(fewest_turns(shelf.body(one), shelf.body(other)).lot)),
        "least": (one, lambda: in_line(least_setting(shelf.body(one)))),
        "chain": (str(number), lambda: f"{chain_sorts(number)} {chain_mirrorlike(number)}"),
        "wreath": (str(number), lambda: f"{wreath_sorts(number)} {wreath_mirrorlike(number)}"),
        "set": ("", lambda: "-" if shelf.about is None else str(shelf.about)),
        "sayings": ("", lambda: str(len(about().sayings))),
        "saying": (str(number), saying_at),
        "fits": ("", lambda: str(len(fitting(about())))),
        "judge": (str(saying), lambda: told(judged(about(), saying))),
        "best": ("", lambda: in_line(best_mark(about()) or ())),
    }
    rest, answer = asked[word]
    return f"{word} {rest}".strip(), answer


def any_shelf(rng):
    bodies = [(name, some_body(rng)) for name in rng.sample(NAMES, rng.choice((0, 1, 2, 3, 3, 4, 4)))]
    if bodies and rng.random() < 0.7:
        first = bodies[0][1]
        bodies[-1] = (bodies[-1][0], rng.choice((any_body(rng, first.web), first.mirrored())))
    about = rng.choice([None, PAIR, STAR] + [body.web for _, body in bodies])
    sayings = []
    if about is not None:
        sayings = [any_saying(rng, about) for _ in range(rng.choice((0, 1, 2, 3, 7)))]
    return Shelf(bodies, about, sayings)


def copy_of(shelf):
    return Shelf(shelf.bodies, shelf.about, shelf.sayings)


class TestDeeds(Asking):
    def test_against_the_functions(self):
        rng = random.Random(1801)
        words = []
        for _ in range(2500):
            shelf = any_shelf(rng)
            before = copy_of(shelf)
            line, asked = any_deed(rng, dict(shelf.bodies), shelf.about, shelf.sayings)
            try:
                made = asked()
            except HandError as error:
                self.assert_raises(error, changed, shelf, line)
                words.append((line.split()[0], type(error).__name__))
            else:
                found = changed(shelf, line)
                self.assertEqual((type(found), len(found)), (tuple, 2))
                self.assertEqual(found, made, line)
                self.assertEqual(found[0].names, made[0].names)
                self.assertEqual([found[0].body(name) for name in made[0].names], [body for _, body in made[0].bodies])
                self.assertEqual(Shelf(found[0].bodies, found[0].about, found[0].sayings), found[0])
                words.append((line.split()[0], None))
            self.assertEqual(shelf, before)
        for word in DEEDS:
            self.assertGreater(words.count((word, None)), 4, word)
        for word, error in (("put", "Twice"), ("kind", "NoPiece"), ("turn", "NoMark"), ("turn", "Twice"),
                            ("exchange", "NoMark"), ("off", "BadWeb"), ("off", "NoPiece"), ("join", "Twice"),
                            ("join", "NoPiece"), ("drop", "NoName"), ("about", "NoName"), ("tell", "Nothing"),
                            ("tell", "NoMark"), ("tell", "Misfit"), ("strike", "BadNumber"), ("strike", "Twice"),
                            ("strike", "Nothing")):
            self.assertGreater(words.count((word, error)), 1, (word, error))

    def test_places_are_kept(self):
        shelf = Shelf([("a", Body(STAR, [1])), ("b", Body(PAIR, [1, 1]))], STAR, [IsMirrorlike()])
        for line in ("kind a 1 z", "turn a 0", "mirror a", "exchange a 0 1 2", "off a 3"):
            made, _ = changed(shelf, line)
            self.assertEqual((made.names, made.body("b")), (("a", "b"), Body(PAIR, [1, 1])))
            # The web that is set stays what it was, and so do the sayings.
            self.assertEqual((made.about, made.sayings), (STAR, (IsMirrorlike(),)))
        self.assertEqual(changed(shelf, "join c a 0 b 0")[0].names, ("a", "b", "c"))
        self.assertEqual(changed(shelf, "join c a 0 a 0")[1], "3")
        made, answer = changed(shelf, "drop a")
        self.assertEqual((made.names, answer, made.about), (("b",), "1", STAR))
        self.assertEqual(changed(made, "put a d :")[0].names, ("b", "a"))

    def test_about_strikes_all_sayings(self):
        shelf = Shelf([("a", Body(STAR, [1])), ("b", Body(PAIR, [1, 1]))], STAR, [IsMirrorlike()] * 3)
        for line, web, answer in (("about a", STAR, "1"), ("about b", PAIR, "2")):
            made, told = changed(shelf, line)
            self.assertEqual((made.about, made.sayings, told), (web, (), answer))

    def test_strike_keeps_the_order(self):
        sayings = [Product([], 1), IsMirrorlike(), Product([0], 1), IsMirrorlike(False)]
        shelf = Shelf([], STAR, sayings)
        made, answer = changed(shelf, "strike 2 0")
        self.assertEqual((made.sayings, answer), ((IsMirrorlike(), IsMirrorlike(False)), "2"))
        self.assertEqual(changed(shelf, "strike 3 1 0 2")[1], "0")
        self.assert_raises(BadNumber("number"), changed, shelf, "strike 0 0 4")
        self.assert_raises(Twice(1), changed, shelf, "strike 1 0 1 0")
        self.assertEqual(changed(made, "tell product -1 0")[1], "2")

    def test_bounds(self):
        bodies = [("a", Body(TWELVE, [1] * 12)), ("b", Body(NINE, [1] * 9)), ("c", Body(web_of(5, [
            (0, 1), (1, 2), (2, 3), (3, 4)]), []))]
        shelf = Shelf(bodies, STAR, [IsMirrorlike()] * 8)
        for line in ("about a", "about b"):
            self.assert_raises(TooMany("marks", 8), changed, shelf, line)
        self.assertEqual(changed(shelf, "about c")[1], "0")
        self.assert_raises(TooMany("sayings", 8), changed, shelf, "tell product 1 0")
        self.assert_raises(NoMark(1), changed, shelf, "tell product 1 1")
        self.assert_raises(Misfit("marks"), changed, shelf, "tell one yes")
        self.assert_raises(TooMany("pieces", 16), changed, shelf, "join d a 0 c 0")
        self.assert_raises(BadWeb("room"), changed, Shelf([("a", Body(FULL, [1] * 8))]), "join d a 0 a 0")
        # Sayings that nothing fits may be told.
        made, _ = changed(Shelf([], STAR, [NOTHING_FITS]), "tell mirrorlike no")
        self.assertEqual(answer_of(made, "fits"), "0")


class TestAsks(Asking):
    def test_against_the_functions(self):
        rng = random.Random(1811)
        words = []
        for _ in range(2500):
            shelf = any_shelf(rng)
            before = copy_of(shelf)
            line, asked = any_ask(rng, shelf)
            try:
                answer = asked()
            except HandError as error:
                if isinstance(error, Impossible):
                    with self.assertRaises(Impossible) as caught:
                        answer_of(shelf, line)
                    self.assertEqual(caught.exception.paper, error.paper)
                else:
                    self.assert_raises(error, answer_of, shelf, line)
                words.append((line.split()[0], type(error).__name__))
            else:
                self.assertEqual(answer_of(shelf, line), answer, line)
                words.append((line.split()[0], answer))
            self.assertEqual(shelf, before)
        errors = [error.__name__ for error in (NoName, NoPiece, NoMark, Misfit, BadNumber, BadWeb, Nothing, Impossible)]
        for word in ASKS:
            told = [answer for its, answer in words if its == word and answer not in errors]
            self.assertGreater(len(told), 8, word)
        for word, answer in (("names", "-"), ("same", "one"), ("same", "mirror"), ("same", "neither"),
                             ("mirrorlike", "yes"), ("mirrorlike", "no"), ("counts", "yes"), ("counts", "no"),
                             ("way", "firm"), ("way", "idle"), ("alike", "alike"),
                             ("alike", "unlike"), ("letters", "-"), ("letters", "BadWeb"), ("fewest", "-"),
                             ("fewest", "Misfit"), ("least", "-"), ("set", "-"), ("fits", "0"),
                             ("judge", "surely"), ("judge", "never"), ("judge", "open"), ("judge", "Impossible"),
                             ("best", "Impossible"), ("best", "-"), ("saying", "BadNumber"), ("chain", "BadNumber")):
            self.assertGreater(words.count((word, answer)), 0, (word, answer))
        self.assertGreater(len([answer for word, answer in words if word == "fewest" and answer[0].isdigit()]), 3)

    def test_single_answers(self):
        flat = Body(Web(list("mabx"), [(0, 1), (0, 2), (0, 3)]), [])
        like = Body(Web(list("maxx"), [(0, 1), (0, 2), (0, 3)]), [])
        near = Body(Web(list("mabhpq"), [(0, 1), (0, 2), (0, 3), (3, 4), (3, 5)], [3]), [1])
        shelf = Shelf([("a", flat), ("b", like), ("c", near), ("d", Body(BUSH, [1] * 4))], PAIR)
        for line, answer in (("faces a 0", "mirror"), ("faces b 0", "one"), ("faces c 0", "neither"),
                             ("kins b", "0 / 1 / 2 3"), ("names", "a b c d"), ("sorts d", "1 1"), ("sorts a", "1 1"),
                             ("least a", "-"), ("fewest a a", "-"), ("letters a", "-"), ("fits", "4"), ("best", "0 2"),
                             ("sayings", "0"), ("chain 2000", f"{chain_sorts(2000)} {chain_mirrorlike(2000)}"),
                             ("wreath 3", "2 2"), ("way d 0", "idle"), ("letters d", "- - - -"),
                             ("least d", "-1 -1 -1 -1"), ("set", str(PAIR)), ("letters c", "R"), ("counts c 0", "yes")):
            self.assertEqual(answer_of(shelf, line), answer, line)
        cup = Body.read("h+ h- e e u u : 0 1 / 0 2 / 0 4 / 1 3 / 1 5")
        pair = Shelf([("a", cup), ("b", cup.turned([1])), ("c", cup.mirrored().turned([1]))])
        for line, answer in (("alike a 2 3", "mirror"), ("alike b 2 3", "alike"), ("alike b 2 4", "unlike"),
                             ("fewest a b", "1"), ("fewest b c", "0 1"), ("same b c", "mirror"),
                             ("same a b", "neither"),
                             ("open a", "0 1 / 2 3 / 4 5"), ("kins a", "0 / 1 / 2 / 3 / 4 / 5"), ("way a 1", "firm"),
                             ("letters a", "L R"), ("least a", "-1 1"), ("sorts c", "3 1")):
            self.assertEqual(answer_of(pair, line), answer, line)
        dot = Shelf([("a", Body(Web(["a"], []), []))], Web(["a"], []))
        for line, answer in (("best", "-"), ("fits", "1"), ("judge mirrorlike no", "never"), ("kins a", "0"),
                             ("judge product 1", "surely"), ("set", "a :"), ("same a a", "one")):
            self.assertEqual(answer_of(dot, line), answer, line)

    def test_bounds(self):
        shelf = Shelf([("a", Body(TWELVE, [1] * 12)), ("b", Body(FULL, [1] * 8)), ("c", Body(TEN, [1] * 10))], FULL)
        for line in ("least a", "way a 0"):
            self.assert_raises(TooMany("marks", 10), answer_of, shelf, line)
        for line in ("same b b", "mirrorlike b", "sorts b", "counts b 0", "way b 0", "kins b", "open b", "alike b 0 1",
                     "fewest b b", "least b", "best", "judge mirrorlike yes"):
            self.assert_raises(TooMany("renamings", 400), answer_of, shelf, line)
        self.assertEqual(answer_of(shelf, "fits"), "256")
        self.assertEqual(answer_of(shelf, "judge product 1 0"), "open")
        self.assertEqual(answer_of(shelf, "sorts a"), f"{many_sorts(TWELVE)} {many_mirrorlike(TWELVE)}")
        for line in ("chain 0", "chain 2001", "wreath 2", "wreath 2001", "chain " + "9" * 60):
            self.assert_raises(BadNumber("many"), answer_of, shelf, line)
        for line in ("counts b 8", "way b 8", "counts b " + "9" * 60):
            self.assert_raises(NoMark(int(line.split()[2])), answer_of, shelf, line)
        self.assert_raises(NoPiece(9), answer_of, shelf, "alike b 9 10")
        self.assert_raises(NoPiece(10), answer_of, shelf, "alike b 7 10")
        self.assert_raises(NoPiece(8), answer_of, shelf, "faces b 8")
        self.assert_raises(Misfit("piece"), answer_of, shelf, "faces b 0")
        self.assert_raises(BadWeb("tree"), answer_of, shelf, "letters c")
        told = Shelf([], PAIR, [NOTHING_FITS])
        for line in ("judge mirrorlike yes", "best"):
            with self.assertRaises(Impossible) as caught:
                answer_of(told, line)
            self.assertEqual(caught.exception.paper, NoBody(0))
        self.assert_raises(NoMark(5), answer_of, told, "judge product 1 5 6")
        self.assert_raises(Misfit("marks"), answer_of, told, "judge one no 1")


class TestWhichErrorComesFirst(Asking):
    def test_shelf_and_words(self):
        for value in (None, (), "a", 3, [], Told(PAIR), Shelf):
            self.assert_raises(BadDesk("shelf"), changed, value, None)
            self.assert_raises(BadDesk("shelf"), answer_of, value, None)
        shelf = Shelf([("a", Body(STAR, [1]))])
        for line in [*ODD_VALUES, ["names"], b"names", Agreeing(), "xyz", "", " ", "Put", "names\n"]:
            self.assert_raises(BadText(0, 0), changed, shelf, line)
            self.assert_raises(BadText(0, 0), answer_of, shelf, line)
        for word in ASKS:
            for rest in ("", " ", " a", " a b c d", " 0", " -1"):
                self.assert_raises(BadText(0, 0), changed, shelf, word + rest)
        for word in DEEDS:
            for rest in ("", " ", " a", " a b c d", " 0", " -1"):
                self.assert_raises(BadText(0, 0), answer_of, shelf, word + rest)

    def test_texts_ahead_of_nothing_ahead_of_names(self):
        shelf = Shelf([("a", Body(STAR, [1]))])
        for line in SPEAKING:
            call = changed if line.split()[0] in DEEDS else answer_of
            self.assert_raises(Nothing(), call, shelf, line)
            self.assert_raises(BadText(0, len(line.split())), call, shelf, line + " ")
        for line in ("tell", "judge", "saying", "strike"):
            call = changed if line in DEEDS else answer_of
            self.assert_raises(BadText(0, 1), call, shelf, line)
        # Of a web that is not set nobody asks whether a saying fits it.
        for line in ("tell product 1 9", "tell one yes"):
            self.assert_raises(Nothing(), changed, shelf, line)
        self.assert_raises(Nothing(), changed, shelf, "strike 7 7")
        self.assertEqual(answer_of(shelf, "set"), "-")

    def test_names(self):
        shelf = Shelf([("a", Body(STAR, [1])), ("b", Body(PAIR, [1, 1]))])
        self.assert_raises(Twice("a"), changed, shelf, "put a d :")
        self.assert_raises(BadText(0, 3), changed, shelf, "put a d")
        self.assert_raises(NoName("x"), changed, shelf, "join a x 9 y 9")
        self.assert_raises(NoName("y"), changed, shelf, "join a b 9 y 9")
        self.assert_raises(Twice("a"), changed, shelf, "join a b 9 a 9")
        self.assert_raises(NoPiece(9), changed, shelf, "join c b 9 a 8")
        self.assert_raises(NoPiece(8), changed, shelf, "join c b 0 a 8")
        self.assert_raises(NoName("c"), changed, shelf, "join c c 0 c 0")
        for line in ("kind x 9 z", "turn x 9 9", "mirror x", "exchange x 9 9 9", "off x 9", "drop x", "about x"):
            self.assert_raises(NoName("x"), changed, shelf, line)
        for line in ("show x", "same x y", "same x a", "same a x", "mirrorlike x", "sorts x", "counts x 9", "way x 9",
                     "kins x", "open x", "alike x 9 9", "faces x 9", "letters x", "fewest x y", "fewest a x",
                     "least x"):
            self.assert_raises(NoName("x"), answer_of, shelf, line)
        for line, error in (("kind a 9 z", NoPiece(9)), ("turn a 1 0 0", NoMark(1)), ("turn a 0 0 1", NoMark(1)),
                            ("turn a 0 0", Twice(0)), ("exchange a 1 9 9", NoMark(1)), ("exchange a 0 9 8", NoPiece(9)),
                            ("exchange a 0 1 1", Twice(1)), ("off a 9", NoPiece(9)), ("off a 0", BadWeb("end"))):
            self.assert_raises(error, changed, shelf, line)
        self.assert_raises(Misfit("webs"), answer_of, shelf, "fewest a b")


if __name__ == "__main__":
    unittest.main()
