"""The desk: keeps curves by names, is told rows of text, and answers each with a text."""

from curveseat.curves import point
from curveseat.cuts import cut, stretch, turned
from curveseat.errors import NoName, NoText
from curveseat.hulls import box, hull
from curveseat.joins import smoothness
from curveseat.maps import mapped
from curveseat.meets import MOST_LEVEL, meets
from curveseat.partings import parting
from curveseat.raising import MOST_SEATS, least, lowered, raised, same
from curveseat.speeds import speed
from curveseat.texts import read_point, read_share, show_curve, show_point, show_share

LETTERS = "abcdefghijklmnopqrstuvwxyz"
MOST_LETTERS = 12
MOST_SMOOTHNESS = 11
# What stands behind a row's first word; a name is one that a curve has, a new one need not be.
FORMS = {
    "tell": "name", "names": "", "point": "name share", "cut": "name share new new",
    "stretch": "name share share new", "turn": "name", "raise": "name", "lower": "name", "least": "name",
    "speed": "name new", "move": "name share share share share share share", "same": "name name", "hull": "name",
    "box": "name", "part": "name name", "meet": "name name level", "join": "name name",
}


def read_name(word):
    """The name that a word is."""
    if not 1 <= len(word) <= MOST_LETTERS or not all([sign in LETTERS for sign in word]):
        raise NoText("a name has one to twelve small letters")
    return word


def read_level(word):
    """The level that a word tells."""
    if word not in [str(level) for level in range(MOST_LEVEL + 1)]:
        raise NoText("a level is one figure, 0 to 6")
    return int(word)


def read_word(kind, word):
    """What a word of this kind tells."""
    if kind == "share":
        return read_share(word)
    if kind == "point":
        return read_point(word)
    if kind == "level":
        return read_level(word)
    return read_name(word)


def kinds_behind(first, many):
    """The kinds of the words, so many, behind a row's first word."""
    if first == "curve" and 2 <= many <= MOST_SEATS + 1:
        return ["new"] + ["point"] * (many - 1)
    if first not in FORMS or len(FORMS[first].split()) != many:
        raise NoText("no row is written so")
    return FORMS[first].split()


def read_row(row):
    """The first word of a row, the kinds of the words behind it, and what these tell."""
    if not isinstance(row, str):
        raise NoText("a row is a text")
    first, *words = row.split(" ")
    kinds = kinds_behind(first, len(words))
    return (first, kinds, [read_word(kind, word) for kind, word in zip(kinds, words)])


def keep_curve(kept, things):
    """The row curve."""
    name, *seats = things
    kept[name] = seats
    return "ok"


def tell_curve(kept, things):
    """The row tell."""
    return show_curve(kept[things[0]])


def tell_names(kept, things):
    """The row names."""
    return " ".join(sorted(kept)) if kept else "none"


def tell_point(kept, things):
    """The row point."""
    name, t = things
    return show_point(point(kept[name], t))


def keep_cut(kept, things):
    """The row cut."""
    name, t, one, other = things
    kept[one], kept[other] = cut(kept[name], t)
    return "ok"


def keep_stretch(kept, things):
    """The row stretch."""
    name, s, t, new = things
    kept[new] = stretch(kept[name], s, t)
    return "ok"


def turn_curve(kept, things):
    """The row turn."""
    kept[things[0]] = turned(kept[things[0]])
    return "ok"


def raise_curve(kept, things):
    """The row raise."""
    kept[things[0]] = raised(kept[things[0]])
    return "ok"


def lower_curve(kept, things):
    """The row lower."""
    kept[things[0]] = lowered(kept[things[0]])
    return "ok"


def lower_fully(kept, things):
    """The row least."""
    kept[things[0]] = least(kept[things[0]])
    return "ok"


def keep_speed(kept, things):
    """The row speed."""
    name, new = things
    kept[new] = speed(kept[name])
    return "ok"


def move_curve(kept, things):
    """The row move."""
    name, *by = things
    kept[name] = mapped(kept[name], tuple(by))
    return "ok"


def tell_same(kept, things):
    """The row same."""
    one, other = things
    return "yes" if same(kept[one], kept[other]) else "no"


def tell_hull(kept, things):
    """The row hull."""
    return show_curve(hull(kept[things[0]]))


def tell_box(kept, things):
    """The row box."""
    return " ".join([show_share(side) for side in box(kept[things[0]])])


def tell_part(kept, things):
    """The row part."""
    one, other = things
    return parting(kept[one], kept[other])[0]


def tell_meet(kept, things):
    """The row meet."""
    one, other, level = things
    pairs, thrown = meets(kept[one], kept[other], level)
    return " ".join([f"{i}:{j}" for i, j in pairs]) if pairs else "none"


def tell_join(kept, things):
    """The row join."""
    one, other = things
    return str(smoothness(kept[one], kept[other], MOST_SMOOTHNESS))


DEEDS = {
    "curve": keep_curve, "tell": tell_curve, "names": tell_names, "point": tell_point, "cut": keep_cut,
    "stretch": keep_stretch, "turn": turn_curve, "raise": raise_curve, "lower": lower_curve, "least": lower_fully,
    "speed": keep_speed, "move": move_curve, "same": tell_same, "hull": tell_hull, "box": tell_box, "part": tell_part,
    "meet": tell_meet, "join": tell_join,
}


class Desk:
    """Curves by names."""

    def __init__(self):
        self.kept = {}

    def say(self, row):
        """The answer to a row."""
        first, kinds, things = read_row(row)
        for kind, thing in zip(kinds, things):
            if kind == "name" and thing not in self.kept:
                raise NoName("no curve has this name")
        deed = DEEDS[first]
        return deed(self.kept, things)
