"""The desk: a keeper that is told lines, and answers each with a text."""

from weightrooms.errors import NoRow, NoText, Unknown
from weightrooms.keepers import Keeper
from weightrooms.least import least_worst
from weightrooms.rooms import is_box
from weightrooms.rules import rule_tree
from weightrooms.shapes import bound_of, floor_of, worst
from weightrooms.texts import read_fraction, show_box, show_fraction, show_tree

FIRST_ROOM = ((0, 1), (0, 1), (1, 1), (1, 1))
FIRST_MOST = (3, 1)
NOTHING = "-"


def fraction_of(word):
    """The fraction of a word; a line with another word there is none."""
    try:
        return read_fraction(word)
    except NoText:
        raise NoRow("a fraction is asked for here") from None


def whole_of(word):
    """The whole number of a word; a line with another word there is none."""
    top, bottom = fraction_of(word)
    if bottom != 1:
        raise NoRow("a whole number is asked for here")
    return top


def keeper_of(words):
    """A new keeper, of a room and a most that are told by five words."""
    parts = [fraction_of(word) for word in words]
    room = tuple(parts[:4])
    if not is_box(room):
        raise NoRow("this is no room")
    return Keeper(room, parts[4])


def names_of(keeper):
    """The names of a keeper's things, in order; refused where there are none."""
    names = sorted(keeper.weights())
    if len(names) == 0:
        raise Unknown("no thing is there")
    return names


def weights_of(keeper):
    """The weights of a keeper's things, by names; refused where there are none."""
    weights = keeper.weights()
    return [weights[name] for name in names_of(keeper)]


def show_pairs(pairs):
    """The text of moved pairs."""
    return " ".join([one + "-" + other for one, other in pairs]) or NOTHING


def put_line(keeper, words):
    """Put a thing."""
    return show_pairs(keeper.put(words[0], whole_of(words[1])))


def change_line(keeper, words):
    """Change a thing's weight."""
    return show_pairs(keeper.change(words[0], whole_of(words[1])))


def take_line(keeper, words):
    """Take a thing away."""
    return show_pairs(keeper.take(words[0]))


def tree_line(keeper, words):
    """The tree with names."""
    tree = keeper.tree()
    return NOTHING if tree is None else show_tree(tree)


def box_line(keeper, words):
    """A thing's box."""
    boxes = keeper.boxes()
    if words[0] not in boxes:
        raise Unknown("this thing is not there")
    return show_box(boxes[words[0]])


def things_line(keeper, words):
    """The things with their weights."""
    weights = keeper.weights()
    return "; ".join([name + " " + show_fraction((weights[name], 1)) for name in sorted(weights)]) or NOTHING


def worst_line(keeper, words):
    """The worst shape, and the first thing that has it."""
    names = names_of(keeper)
    boxes = keeper.boxes()
    greatest, at = worst([boxes[name] for name in names])
    return show_fraction(greatest) + " " + names[at]


def by_line(keeper, words):
    """The tree that a rule tells."""
    weights = weights_of(keeper)
    return show_tree(rule_tree(words[0], keeper.room, weights))


def bound_line(keeper, words):
    """The bound of a rule."""
    weights = weights_of(keeper)
    bound = bound_of(words[0], keeper.room, weights)
    return NOTHING if bound is None else show_fraction(bound)


def floor_line(keeper, words):
    """The floor."""
    return show_fraction(floor_of(keeper.room, weights_of(keeper)))


def least_line(keeper, words):
    """The least worst shape of a kind."""
    return show_fraction(least_worst(keeper.room, weights_of(keeper), words[0])[0])


COUNTS = {
    "room": 6, "put": 3, "change": 3, "take": 2, "tree": 1, "box": 2, "things": 1, "worst": 1, "by": 2, "bound": 2,
    "floor": 1, "least": 2,
}
DEEDS = {
    "put": put_line, "change": change_line, "take": take_line, "tree": tree_line, "box": box_line,
    "things": things_line, "worst": worst_line, "by": by_line, "bound": bound_line, "floor": floor_line,
    "least": least_line,
}


class Desk:
    """A keeper that is told lines."""

    def __init__(self):
        self.keeper = Keeper(FIRST_ROOM, FIRST_MOST)

    def say(self, line):
        """Do what a line tells, and answer it with a text."""
        words = line.split(" ")
        if words[0] not in COUNTS or len(words) != COUNTS[words[0]]:
            raise NoRow("this is none of the lines")
        if words[0] == "room":
            self.keeper = keeper_of(words[1:])
            return "ok"
        deed = DEEDS[words[0]]
        return deed(self.keeper, words[1:])
