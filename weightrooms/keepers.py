"""Keepers: things that come, go and change in a room, and a tree that is mended behind each deed."""

from weightrooms.errors import NoName, NoWeights, Taken, TooMany, Unknown
from weightrooms.fracs import is_less
from weightrooms.moves import moved_pairs
from weightrooms.rooms import check_box, is_weight, long_way, shape
from weightrooms.rules import thirds_tree
from weightrooms.trees import parts_of, path_to, place, things_in

LETTERS = "abcdefghijklmnopqrstuvwxyz"
MOST_LETTERS = 8
MOST_KEPT = 40


def is_name(thing):
    """Whether a thing, whatever it is, is a name."""
    if not isinstance(thing, str) or len(thing) < 1 or len(thing) > MOST_LETTERS:
        return False
    return all([sign in LETTERS for sign in thing])


def check_weight(thing):
    """Refuse what is no weight."""
    if not is_weight(thing):
        raise NoWeights("a weight is a whole number from 1 on")


def boxes_in(room, weights, tree):
    """The boxes by names, to which a tree of names parts a room; none where there is no tree."""
    placed = {}
    if tree is not None:
        place(room, weights, tree, placed)
    return placed


def first_above(most, boxes):
    """The first name whose box has a shape above most, or None."""
    for name in sorted(boxes):
        if is_less(most, shape(boxes[name])):
            return name
    return None


def with_names(tree, names):
    """A tree of numbers with names in their place."""
    if not isinstance(tree, tuple):
        return names[tree]
    way, trees = tree
    return (way, tuple([with_names(part, names) for part in trees]))


def parted_anew(room, weights, tree):
    """The tree by thirds of the things of a tree, by names, in the room that it parts."""
    names = sorted(things_in(tree))
    return with_names(thirds_tree(room, [weights[name] for name in names]), names)


def replaced(tree, path, part):
    """The tree with another one at the place to which a path leads."""
    if len(path) == 0:
        return part
    way, trees = tree
    inner = list(trees)
    inner[path[0]] = replaced(trees[path[0]], path[1:], part)
    return (way, tuple(inner))


def without(tree, name):
    """The tree with the other tree of its two in the place of a name's; None where the name is alone."""
    path = path_to(tree, name)
    if len(path) == 0:
        return None
    around = tree
    for at in path[:-1]:
        around = around[1][at]
    return replaced(tree, path[:-1], around[1][1 - path[-1]])


def trees_around(room, weights, tree, path):
    """Each tree on a path with the room that it parts, from the whole one inwards; not what the path leads to."""
    found = []
    for at in path:
        found.append((room, tree))
        room, tree = parts_of(room, weights, tree)[at], tree[1][at]
    return found


def mending(room, most, weights, tree, name):
    """A path to a tree around a thing, and that tree parted anew: the least one mended by it, else the whole one."""
    path = path_to(tree, name)
    around = trees_around(room, weights, tree, path)
    for at in range(len(path) - 1, 0, -1):
        inner, part = around[at]
        anew = parted_anew(inner, weights, part)
        if first_above(most, boxes_in(inner, weights, anew)) is None:
            return (path[:at], anew)
    return ([], parted_anew(room, weights, tree))


def mended(room, most, weights, tree):
    """The tree, parted anew in places as long as some box's shape is above most."""
    name = first_above(most, boxes_in(room, weights, tree))
    # A thing alone has no tree around it, and stays.
    while name is not None and isinstance(tree, tuple):
        path, part = mending(room, most, weights, tree, name)
        tree = replaced(tree, path, part)
        if len(path) == 0:
            # The whole tree is parted anew just once, though it may have boxes above most then.
            return tree
        name = first_above(most, boxes_in(room, weights, tree))
    return tree


class Keeper:
    """Things by names, with weights, in a room; the boxes are kept near square by most."""

    def __init__(self, room, most):
        check_box(room)
        self.room = room
        self.most = most
        self.kept = {}
        self.grown = None

    def put(self, name, weight):
        """Put a thing; told are the moved pairs."""
        if not is_name(name):
            raise NoName("a name is one to eight small letters")
        check_weight(weight)
        if name in self.kept:
            raise Taken("a thing bears this name already")
        if len(self.kept) >= MOST_KEPT:
            raise TooMany("there are forty things already")
        before, tree = self.grown, name
        if before is not None:
            beside = min(sorted(self.kept), key=lambda there: -self.kept[there])
            way = long_way(self.boxes()[beside])
            tree = replaced(before, path_to(before, beside), (way, (beside, name)))
        self.kept[name] = weight
        return self.grow(tree)

    def take(self, name):
        """Take a thing away; told are the moved pairs."""
        self.check_there(name)
        tree = without(self.grown, name)
        del self.kept[name]
        return self.grow(tree)

    def change(self, name, weight):
        """Change a thing's weight; told are the moved pairs."""
        self.check_there(name)
        check_weight(weight)
        self.kept[name] = weight
        return self.grow(self.grown)

    def tree(self):
        """The tree of names; None where nothing is there."""
        return self.grown

    def boxes(self):
        """The boxes by names."""
        return boxes_in(self.room, self.kept, self.grown)

    def weights(self):
        """The weights by names."""
        return dict(self.kept)

    def check_there(self, name):
        """Refuse, whatever it is, what is no name of a thing that is there."""
        if not isinstance(name, str) or name not in self.kept:
            raise Unknown("this thing is not there")

    def grow(self, tree):
        """Keep a tree, mended; told are the pairs that moved since the one that was kept."""
        before = self.grown
        self.grown = mended(self.room, self.most, self.kept, tree)
        if before is None or self.grown is None:
            return []
        return moved_pairs(before, self.grown)
