"""Texts of heaps and motions.

The functions that the document lists refuse what does not fit; of the others
those that read refuse texts too.
"""

from laidover.errors import BadText
from laidover.heaps import is_heap, need_heaps
from laidover.motions import is_motion, need_motions
from laidover.numbers import share
from laidover.points import in_order, lowest

FIGURES = "0123456789"
MOST_FIGURES = 30
FLIP = "flip"

# Python writes no number of more than some thousand figures in one go.
PIECE_LENGTH = 60
PIECE = 10 ** 60


def heap_text(points):
    """A heap as a text."""
    need_heaps(points)
    return written_heap(points)


def motion_text(motion):
    """A motion as a text."""
    need_motions(motion)
    return written_motion(motion)


def heap_read(text):
    """The heap, in order, that is written so."""
    need_text(text)
    points = tuple([point_read(piece) for piece in text.split(" ")])
    # What is written otherwise than the heap would be is not read.
    if not is_heap(points) or written_heap(points) != text:
        raise BadText("no heap is written so")
    return points


def motion_read(text):
    """The motion that is written so."""
    need_text(text)
    pieces = text.split(" ")
    flip = 1 if pieces[-1] == FLIP else 0
    points = [point_read(piece) for piece in pieces[:len(pieces) - flip]]
    motion = (*points, flip)
    if not is_motion(motion) or written_motion(motion) != text:
        raise BadText("no motion is written so")
    return motion


def need_text(thing):
    """Refuse what is no text."""
    if not isinstance(thing, str):
        raise BadText("this is no text")


def written_heap(points):
    """A heap as a text, unchecked."""
    return " ".join([written_point(p) for p in in_order(points)])


def written_motion(motion):
    """A motion as a text, unchecked."""
    turn, shift, flip = motion
    pieces = [written_point(turn), written_point(shift)]
    if flip == 1:
        pieces.append(FLIP)
    return " ".join(pieces)


def written_point(p):
    """A point as a text."""
    x, y, w = p
    return written_share(share(x, w)) + "," + written_share(share(y, w))


def written_share(part):
    """A share as a text."""
    top, below = part
    if below == 1:
        return written_number(top)
    return written_number(top) + "/" + written_number(below)


def written_number(number):
    """A whole number in figures."""
    rest = abs(number)
    pieces = []
    while rest >= PIECE:
        rest, piece = divmod(rest, PIECE)
        pieces.append(str(piece).zfill(PIECE_LENGTH))
    pieces.append(str(rest))
    sign = "-" if number < 0 else ""
    return sign + "".join(reversed(pieces))


def point_read(text):
    """The point of a text, which may be written otherwise than it should be."""
    right, comma, up = text.partition(",")
    x, y = share_read(right), share_read(up)
    return lowest(x[0] * y[1], y[0] * x[1], x[1] * y[1])


def share_read(text):
    """The share of a text, which may be written otherwise than it should be."""
    over, line, under = text.partition("/")
    top = number_read(over)
    below = number_read(under) if line == "/" else 1
    if below < 1:
        raise BadText("a below is above nought")
    return share(top, below)


def number_read(text):
    """The number of a text, which may have noughts ahead."""
    figures = text[1:] if text.startswith("-") else text
    if len(figures) < 1 or len(figures) > MOST_FIGURES:
        raise BadText("a number has 1 to 30 figures")
    if not all([figure in FIGURES for figure in figures]):
        raise BadText("a number is written in figures")
    return int(text)
