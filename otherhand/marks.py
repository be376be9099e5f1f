"""How rows of images lead marks: to which ones, and which are turned."""

from otherhand.checks import is_odd


def hand_turn(web, hub, images):
    """-1 if the images of the neighbours of a hub turn its hand, otherwise 1."""
    return -1 if is_odd([images[piece] for piece in web.near[hub]]) else 1


def side_turn(web, tie, images):
    """-1 if the images of the others at its ends turn the side of a tie, otherwise 1."""
    turn = 1
    for others in web.others(tie):
        if len(others) == 2 and images[others[0]] > images[others[1]]:
            turn = -turn
    return turn


def turns_of(web, images):
    """For each mark -1 if the images turn it, otherwise 1."""
    hands = [hand_turn(web, hub, images) for hub in web.hubs]
    sides = [side_turn(web, tie, images) for tie in web.stiff]
    return hands + sides


def hub_mark(web, hub):
    """The number of the hand of a hub."""
    return web.hubs.index(hub)


def tie_mark(web, tie):
    """The number of the side of a stiff tie."""
    return len(web.hubs) + web.stiff.index(tie)


def image_of_tie(tie, images):
    """The pair of the images of a tie, ascending."""
    ends = [images[tie[0]], images[tie[1]]]
    return (min(ends), max(ends))


def marks_led(web, other, images):
    """For each mark of a web the number of its image in the other one."""
    hands = [hub_mark(other, images[hub]) for hub in web.hubs]
    sides = [tie_mark(other, image_of_tie(tie, images)) for tie in web.stiff]
    return hands + sides


def signs_of(web, other, images):
    """For each mark the number of its image, and -1 if it is turned, otherwise 1."""
    return tuple(zip(marks_led(web, other, images), turns_of(web, images)))


def led_setting(web, other, images, setting):
    """The setting of the other web to which a renaming leads one of a web."""
    found = [1] * len(setting)
    turns = turns_of(web, images)
    for at, image in enumerate(marks_led(web, other, images)):
        found[image] = setting[at] * turns[at]
    return tuple(found)
