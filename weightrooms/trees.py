"""Trees of cuts: a thing's number, or a tuple (way, trees) of a way and two trees or more."""

from weightrooms.errors import NoTree, Unknown
from weightrooms.fracs import is_whole
from weightrooms.rooms import check_box, check_weights, is_way, other_way, parted


def is_branch(thing):
    """Whether a thing, whatever it is, is a way and a tuple of two things or more."""
    if not isinstance(thing, tuple) or len(thing) != 2:
        return False
    return is_way(thing[0]) and isinstance(thing[1], tuple) and len(thing[1]) >= 2


def is_tree(thing, many):
    """Whether a thing, whatever it is, is a tree for so many things."""
    seen = set()
    waiting = [thing]
    while waiting:
        part = waiting.pop()
        if is_branch(part):
            waiting.extend(part[1])
        elif not is_whole(part) or part < 0 or part >= many or part in seen:
            # Told at once: a tuple that stands at many places is not walked at each of them.
            return False
        else:
            seen.add(part)
    return len(seen) == many


def check_tree(thing, many):
    """Refuse what is no tree for so many things."""
    if not is_tree(thing, many):
        raise NoTree("this is no tree for the things")


def things_in(tree):
    """The numbers, or texts in their place, that stand in a tree, in whatever order."""
    found = []
    waiting = [tree]
    while waiting:
        part = waiting.pop()
        if isinstance(part, tuple):
            waiting.extend(part[1])
        else:
            found.append(part)
    return found


def boxes_by(room, weights, tree):
    """The boxes to which a tree parts a room by weights, by the things' numbers."""
    check_box(room)
    check_weights(weights)
    check_tree(tree, len(weights))
    placed = {}
    place(room, weights, tree, placed)
    return [placed[number] for number in range(len(weights))]


def place(room, weights, tree, placed):
    """Put the box of each thing in a tree that parts a room into the dict placed."""
    if not isinstance(tree, tuple):
        placed[tree] = room
        return
    for part, box in zip(tree[1], parts_of(room, weights, tree)):
        place(box, weights, part, placed)


def parts_of(room, weights, tree):
    """The parts to which the first cuts of a tree part a room, one for each of its trees."""
    way, trees = tree
    return parted(room, way, [sum([weights[thing] for thing in things_in(part)]) for part in trees])


def plain_form(tree):
    """The tree with the trees of each tree of its own way in that one's place, throughout."""
    if not isinstance(tree, tuple):
        return tree
    way, trees = tree
    plain = []
    for part in trees:
        inner = plain_form(part)
        if isinstance(inner, tuple) and inner[0] == way:
            plain.extend(inner[1])
        else:
            plain.append(inner)
    return (way, tuple(plain))


def path_to(tree, thing):
    """The places, from the top of a tree, that lead to a thing in it; None where it doesn't stand there."""
    if not isinstance(tree, tuple):
        # Python holds True and 1 alike, but a truth is no whole number.
        return [] if tree == thing and not isinstance(thing, bool) else None
    for at, part in enumerate(tree[1]):
        path = path_to(part, thing)
        if path is not None:
            return [at] + path
    return None


def relation(tree, one, other):
    """How the one of two things of a tree lies to the other: left, right, above or below."""
    path, beyond = path_to(tree, one), path_to(tree, other)
    if path is None or beyond is None or path == beyond:
        raise Unknown("these are no two things of the tree")
    while path[0] == beyond[0]:
        tree = tree[1][path[0]]
        path, beyond = path[1:], beyond[1:]
    ahead = path[0] < beyond[0]
    if tree[0] == "across":
        return "left" if ahead else "right"
    return "above" if ahead else "below"


def turned_tree(tree):
    """The tree with the two ways exchanged throughout."""
    if not isinstance(tree, tuple):
        return tree
    way, trees = tree
    return (other_way(way), tuple([turned_tree(part) for part in trees]))
