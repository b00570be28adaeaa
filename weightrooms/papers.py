"""Papers that bar: that no tree of a kind has a worst shape below a bound, case by case."""

from weightrooms.fracs import is_less, is_whole
from weightrooms.least import check_asked, check_kind, cuts_of, least_worst, parts_by, weight_of
from weightrooms.rooms import shape
from weightrooms.shapes import thinness


def first_cuts(numbers, kind):
    """The first cuts of a rising list of numbers: tuples (way, first, second)."""
    check_kind(kind)
    return cuts_of(numbers, kind)


def paper_of(room, weights, kind):
    """A paper that stands with the least worst shape as its bound."""
    # What a paper is not told of is refused as the least worst is.
    bound = least_worst(room, weights, kind)[0]
    return barring(room, list(range(len(weights))), (weights, kind, bound))


def stands(room, weights, kind, bound, paper):
    """Whether a thing, whatever it is, is a paper that bars all shapes below the bound."""
    check_asked(room, weights, kind)
    return bars(paper, room, list(range(len(weights))), (weights, kind, bound))


def is_thin(number, room, numbers, asked):
    """Whether one thing alone bars: its area is too great for the room's shorter side."""
    weights, kind, bound = asked
    return not is_less(thinness(room, weights[number], weight_of(numbers, weights)), bound)


def is_far(room, asked):
    """Whether the room, as a box, is not nearer to square than the bound."""
    return not is_less(shape(room), asked[2])


def barring(room, numbers, asked):
    """A paper that bars for the numbers in a room; None where there is none."""
    if len(numbers) == 1:
        return ("shape",) if is_far(room, asked) else None
    for number in numbers:
        if is_thin(number, room, numbers, asked):
            return ("thin", number)
    rows = []
    for cut in cuts_of(numbers, asked[1]):
        row = barring_row(cut, room, asked)
        if row is None:
            return None
        rows.append(row)
    return ("cases", tuple(rows))


def barring_row(cut, room, asked):
    """The row of a cut: the part that is barred, and its paper; None where neither is."""
    for at, part in enumerate(parts_by(cut, room, asked[0])):
        paper = barring(part, cut[at + 1], asked)
        if paper is not None:
            return (at, paper)
    return None


def bars(paper, room, numbers, asked):
    """Whether a thing, whatever it is, is a paper that bars for the numbers in a room."""
    if not isinstance(paper, tuple):
        return False
    if len(paper) == 1:
        return paper[0] == "shape" and len(numbers) == 1 and is_far(room, asked)
    if len(paper) != 2:
        return False
    word, held = paper
    if word == "thin":
        return is_whole(held) and held in numbers and is_thin(held, room, numbers, asked)
    if word == "cases":
        return len(numbers) > 1 and isinstance(held, tuple) and all_cases_bar(held, room, numbers, asked)
    return False


def all_cases_bar(rows, room, numbers, asked):
    """Whether there is a row that bars for each first cut, in order."""
    cuts = cuts_of(numbers, asked[1])
    if len(rows) != len(cuts):
        return False
    # The first row that doesn't bar ends it: no more is walked than the cuts ask for.
    for row, cut in zip(rows, cuts):
        if not row_bars(row, cut, room, asked):
            return False
    return True


def row_bars(row, cut, room, asked):
    """Whether a thing, whatever it is, is a part of a cut and a paper that bars for it."""
    if not isinstance(row, tuple) or len(row) != 2:
        return False
    at, paper = row
    if not is_whole(at) or at not in (0, 1):
        return False
    return bars(paper, parts_by(cut, room, asked[0])[at], cut[at + 1], asked)
