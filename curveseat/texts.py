"""Texts: shares, points, curves and paths, written and read; each thing has just one text."""

from curveseat.errors import NoText
from curveseat.paths import MOST_CURVES, Path
from curveseat.raising import MOST_SEATS
from curveseat.shares import share

FIGURES = "0123456789"
MOST_FIGURES = 100
PIECE_FIGURES = 64
PIECE = 10 ** 64


def show_whole(number):
    """The text of a whole number."""
    # Python itself writes no number of more than 4300 figures at once: so a great one is written piece by piece.
    left, found = abs(number), ""
    while left >= PIECE:
        left, last = divmod(left, PIECE)
        found = str(last).zfill(PIECE_FIGURES) + found
    return ("-" if number < 0 else "") + str(left) + found


def show_share(one):
    """The text of a share."""
    top, bottom = one
    return show_whole(top) if bottom == 1 else show_whole(top) + "/" + show_whole(bottom)


def show_point(one):
    """The text of a point."""
    return show_share(one[0]) + "," + show_share(one[1])


def show_curve(curve):
    """The text of a curve."""
    return " ".join([show_point(seat) for seat in curve])


def show_path(path):
    """The text of a path."""
    return " | ".join([show_curve(curve) for curve in path.curves()])


def pieces(text, sign):
    """What stands between the signs of a text; NoText of what is no text."""
    if not isinstance(text, str):
        raise NoText("only texts are read")
    return text.split(sign)


def read_figures(text):
    """The whole number, from 0 on, that is written by these figures."""
    if not 1 <= len(text) <= MOST_FIGURES or not all([sign in FIGURES for sign in text]):
        raise NoText("a whole number is written by one to a hundred figures")
    if text[0] == "0" and len(text) > 1:
        raise NoText("a whole number has no noughts ahead")
    return int(text)


def read_whole(text):
    """The whole number of a text."""
    if not text.startswith("-"):
        return read_figures(text)
    number = read_figures(text[1:])
    if number == 0:
        raise NoText("0 has no sign")
    return -number


def read_share(text):
    """The share of a text, refused with NoText."""
    found = pieces(text, "/")
    if len(found) > 2:
        raise NoText("a share has one bottom")
    top = read_whole(found[0])
    if len(found) == 1:
        return (top, 1)
    bottom = read_figures(found[1])
    if bottom < 2 or share(top, bottom) != (top, bottom):
        raise NoText("a share is written in lowest terms, without a bottom of 1")
    return (top, bottom)


def read_point(text):
    """The point of a text, refused with NoText."""
    found = pieces(text, ",")
    if len(found) != 2:
        raise NoText("a point has two shares")
    return (read_share(found[0]), read_share(found[1]))


def read_curve(text):
    """The curve of a text, refused with NoText."""
    found = pieces(text, " ")
    if len(found) > MOST_SEATS:
        raise NoText("no curve has more than twelve seats")
    return [read_point(one) for one in found]


def read_path(text):
    """The path of a text, refused with NoText, or with NoJoin where its curves don't join."""
    found = pieces(text, " | ")
    if len(found) > MOST_CURVES:
        raise NoText("no path has more than twelve curves")
    return Path([read_curve(one) for one in found])
