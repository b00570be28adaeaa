"""Texts: fractions, boxes and trees, written and read back."""

from weightrooms.errors import NoText
from weightrooms.fracs import fraction
from weightrooms.rooms import MOST_WEIGHTS, is_box
from weightrooms.trees import is_tree, things_in

FIGURES = "0123456789"
MOST_FIGURES = 30


def figures_of(number):
    """The figures of a whole number from 0 on."""
    # Python's own text of a number ends at some thousands of figures, so great ones are written piece by piece.
    pieces = []
    while number >= 10 ** 64:
        number, piece = divmod(number, 10 ** 64)
        pieces.append(str(piece).zfill(64))
    pieces.append(str(number))
    return "".join(pieces[::-1])


def show_fraction(one):
    """The text of a fraction."""
    top, bottom = one
    text = figures_of(abs(top))
    if top < 0:
        text = "-" + text
    if bottom == 1:
        return text
    return text + "/" + figures_of(bottom)


def show_box(box):
    """The text of a box."""
    return " ".join([show_fraction(part) for part in box])


def show_tree(tree):
    """The text of a tree; texts in the place of numbers stand as they are."""
    if isinstance(tree, str):
        return tree
    if not isinstance(tree, tuple):
        return show_fraction((tree, 1))
    way, trees = tree
    return way + "(" + " ".join([show_tree(part) for part in trees]) + ")"


def read_number(text):
    """The whole number of a text; one with noughts ahead is let by here."""
    figures = text[1:] if text.startswith("-") else text
    if len(figures) == 0 or len(figures) > MOST_FIGURES or not all([sign in FIGURES for sign in figures]):
        raise NoText("this is no whole number")
    return int(text)


def read_fraction(text):
    """The fraction of a text."""
    top, slash, bottom = text.partition("/")
    above = read_number(top)
    below = read_number(bottom) if slash == "/" else 1
    if below == 0:
        raise NoText("a fraction has no bottom of 0")
    one = fraction(above, below)
    # There is one text for each fraction: what is written otherwise is none.
    if show_fraction(one) != text:
        raise NoText("this is no fraction")
    return one


def read_box(text):
    """The box of a text."""
    box = tuple([read_fraction(word) for word in text.split(" ")])
    if not is_box(box):
        raise NoText("this is no box")
    return box


def read_tree(text):
    """The tree of a text, for just as many things as it has."""
    tree = tree_of_words(text.replace("(", "( ").replace(")", " )").split(" "))
    many = len(things_in(tree))
    # There is one text for each tree: what is written otherwise is none.
    if many > MOST_WEIGHTS or not is_tree(tree, many) or show_tree(tree) != text:
        raise NoText("this is no tree")
    return tree


def tree_of_words(words):
    """The tree, or what is like one, that words make: each a way with its bracket, a number or an end."""
    # What has begun and not ended waits in a list, so that no text goes too deep; the first is for the whole.
    begun = [("", [])]
    for word in words:
        if word.endswith("("):
            begun.append((word[:-1], []))
        elif word != ")":
            begun[-1][1].append(read_number(word))
        elif len(begun) == 1:
            raise NoText("more ends here than begins")
        else:
            way, trees = begun.pop()
            begun[-1][1].append((way, tuple(trees)))
    whole = begun[0][1]
    # What has begun and not ended is missed when the tree is written again.
    if len(whole) != 1:
        raise NoText("this is no one tree")
    return whole[0]
