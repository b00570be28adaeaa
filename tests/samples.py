"""Things that several tests hand in, and a plain reckoning to hold answers against."""

import random
from fractions import Fraction

from weightrooms.errors import NoBox, NoKind, NoWeights, TooMany

BIG = 10 ** 30 - 1
PRIME = 10 ** 29 + 319

ONE = (1, 1)
SQUARE = ((0, 1), (0, 1), (1, 1), (1, 1))
WIDE = ((-1, 2), (3, 4), (7, 2), (5, 3))
HIGH = ((2, 1), (-5, 1), (1, 3), (9, 1))
VAST = ((-BIG, 8), (BIG, PRIME), (BIG, 2), (PRIME, BIG))
BOXES = [SQUARE, WIDE, HIGH, VAST]

# None of these is a fraction, nor a whole number that could be made one.
NO_PARTS = [
    True, False, None, "", "1", "1/2", b"1", [], [1, 2], [1, 1], {}, {1: 2}, set(), object(), int,
    (), (1,), (1, 2, 3), (1, 1, 1),
    (2, 4), (0, 2), (-3, 6), (BIG, BIG), (6, 2),
    (1, 0), (0, 0), (1, -1), (-1, -2), (0, -1),
    (True, 1), (1, True), (True, True), (False, 1), (1, False), (True, 2), (0, True),
    (None, 1), (1, None), ("1", 1), (1, "2"), ([1], 1), (1, [2]), ((1, 1), 1), (1, (1, 1)),
]

# None of these may be wide or high.
NO_SIDES = NO_PARTS + [0, -1, -BIG, (0, 1), (-1, 1), (-1, BIG)]

WAYS = ["across", "down"]
NO_WAYS = ["", "Across", "ACROSS", "across ", " down", "downs", "down\n", "left", "a", "acrossdown"]
NO_WEIGHT = [0, -1, -BIG, True, False, None, "", "1", b"1", [], [1], (), (1, 1), {}, set(), object()]
NO_WEIGHTS = [
    [], (), (1,), (1, 2), None, "", "1", "12", b"12", 0, 1, 3, -1, BIG, True, False,
    {}, {1: 2}, {1, 2}, range(1, 3), object(), list, SQUARE,
]

# Lists of weights of all sorts: alike, doubled on and on, great ones among small ones, and of thirty figures.
WEIGHTS = [
    [1], [7], [BIG], [1, 1], [3, 1], [1, 3], [1, BIG], [2, 2, 2], [3, 1, 2], [1, 100, 1], [6, 6, 4, 3, 2, 2, 1],
    [1] * 8, [5] * 40, [2 ** at for at in range(12)], [2 ** at for at in range(39, -1, -1)],
    [1, 1, 1000, 1, 1, 1, 999, 1], [1, BIG] * 20, [BIG - at * PRIME // 50 for at in range(40)],
    [at % 7 + 1 for at in range(40)], [at * at % 41 + 1 for at in range(40)],
]

NO_RULES = [
    "", " ", "Rows", "ROWS", "row", "rows ", " rows", "across ", " across", "Across", "downs", "half", "halve", "third",
    "thirds,", "greatest\n", "great", "acrossdown", "across down", "rule", "0", "order", "any", "left", "~",
]
NO_KINDS = ["", " ", "Order", "ORDER", "order ", " any", "orders", "an", "anyorder", "all", "across", "rows", "0", "~"]

NO_NAMES = [
    "", " ", "A", "Z", "aB", "Ab", "a1", "1", "0", "a b", " a", "a ", "a-b", "a_b", "`", "{", "~", "a.", "abcdefghi",
    "abcdefgh ", "a" * 9, "a" * 40, None, True, False, 0, 1, BIG, b"a", b"", [], ["a"], ("a",), (), {}, {"a": 1},
    set(), object(), str,
]
# As many names as a keeper or a nest may have.
FORTY = [first + second for first in "abcd" for second in "qwertyuiop"]

# Five boxes wound about the one in the middle, in a room of three by three: no cut goes through the whole room.
WOUND = [(0, 0, 2, 1), (2, 0, 1, 2), (1, 2, 2, 1), (0, 1, 1, 2), (1, 1, 1, 1)]


def with_part(parts, at, part):
    """The parts as a tuple, another one at the place."""
    changed = list(parts)
    changed[at] = part
    return tuple(changed)


def no_boxes():
    """Things of many kinds that are no boxes."""
    things = [True, False, None, 0, 1, -7, BIG, "", "box", "0 0 1 1", b"", [], {}, set(), object(), tuple]
    things += [(), (ONE,), SQUARE[:3], SQUARE + (ONE,), list(SQUARE), [SQUARE], (SQUARE,), dict(enumerate(SQUARE))]
    things += [[list(part) for part in SQUARE], tuple(list(part) for part in SQUARE)]
    things += [(0, 0, 1, 1), "abcd", ("a", "b", "c", "d"), (None,) * 4, (SQUARE,) * 4]
    for at in range(4):
        for part in NO_PARTS + [0, 1, -1]:
            things.append(with_part(WIDE, at, part))
    for at in (2, 3):
        for part in NO_SIDES:
            things.append(with_part(WIDE, at, part))
    return things


def pair(number):
    """A number of the plain reckoning as a fraction of the program."""
    return (number.numerator, number.denominator)


def number(one):
    """A fraction of the program as a number of the plain reckoning."""
    return Fraction(one[0], one[1])


def plainly(box):
    """The four numbers of a box, of the plain reckoning."""
    return tuple(number(part) for part in box)


def lists_with_no_weight():
    """Lists one of whose things is no weight, at each place."""
    for thing in NO_WEIGHT:
        for many in (1, 2, 3, 40, 41, 60):
            for at in sorted({0, many // 2, many - 1}):
                things = [5] * many
                things[at] = thing
                yield things


def nested_deep(deep, wrap):
    """A thing that lies so deep within others, wrapped each time anew."""
    thing = ()
    for _ in range(deep):
        thing = wrap(thing)
    return thing


def chain(numbers, ways=("across", "down")):
    """A tree as deep as can be: each number ahead of all behind it, the ways by turns."""
    tree = numbers[-1]
    for step, figure in enumerate(reversed(numbers[:-1])):
        tree = (ways[step % len(ways)], (figure, tree))
    return tree


def chain_back(numbers, ways=("across", "down")):
    """A tree as deep as can be: each number behind all ahead of it, the ways by turns."""
    tree = numbers[0]
    for step, figure in enumerate(numbers[1:]):
        tree = (ways[step % len(ways)], (tree, figure))
    return tree


def some_tree(dice, numbers, most=4):
    """A tree of the numbers in this order, up to so many trees at a place, as the die falls."""
    if len(numbers) == 1:
        return numbers[0]
    many = dice.randint(2, min(most, len(numbers)))
    cuts = [0] + sorted(dice.sample(range(1, len(numbers)), many - 1)) + [len(numbers)]
    trees = [some_tree(dice, numbers[begin:end], most) for begin, end in zip(cuts, cuts[1:])]
    return (dice.choice(WAYS), tuple(trees))


def mixed(dice, things):
    """The things in an order as the die falls."""
    return dice.sample(list(things), len(things))


def standing_in(tree):
    """All that stands in a tree, in order."""
    if not isinstance(tree, tuple):
        return [tree]
    return [thing for part in tree[1] for thing in standing_in(part)]


def plain_boxes(room, weights, tree):
    """The boxes by a tree, reckoned plainly, as a dict by what stands in the tree."""
    if not isinstance(tree, tuple):
        return {tree: tuple(pair(part) for part in room)}
    left, top, wide, high = room
    whole = sum(weights[thing] for thing in standing_in(tree))
    boxes = {}
    for part in tree[1]:
        share = Fraction(sum(weights[thing] for thing in standing_in(part)), whole)
        if tree[0] == "across":
            boxes.update(plain_boxes((left, top, wide * share, high), weights, part))
            left += wide * share
        else:
            boxes.update(plain_boxes((left, top, wide, high * share), weights, part))
            top += high * share
    return boxes


def plain_shape(wide, high):
    """The greater of two sides over the lesser."""
    return max(wide, high) / min(wide, high)


def plain_worst(wide, high, weights, tree):
    """The worst shape of a room so wide and high, parted by a tree, reckoned plainly."""
    if not isinstance(tree, tuple):
        return plain_shape(wide, high)
    whole = sum(weights[thing] for thing in standing_in(tree))
    found = Fraction(0)
    for part in tree[1]:
        share = Fraction(sum(weights[thing] for thing in standing_in(part)), whole)
        sides = (wide * share, high) if tree[0] == "across" else (wide, high * share)
        found = max(found, plain_worst(*sides, weights, part))
    return found


def renamed(tree, names):
    """The tree with other things in the place of its numbers."""
    if not isinstance(tree, tuple):
        return names[tree]
    return (tree[0], tuple(renamed(part, names) for part in tree[1]))


def steps_to(tree, thing):
    """The ways and places from the top of a tree to a thing, or None."""
    if not isinstance(tree, tuple):
        return [] if tree == thing else None
    for at, part in enumerate(tree[1]):
        rest = steps_to(part, thing)
        if rest is not None:
            return [(tree[0], at)] + rest
    return None


def plain_relation(tree, one, other):
    """The relation, by the first step at which the two things part."""
    for (way, at), (_, beyond) in zip(steps_to(tree, one), steps_to(tree, other)):
        if at != beyond:
            return {"across": ("left", "right"), "down": ("above", "below")}[way][at > beyond]
    return None


def plain_cuts(wide, high, things, count):
    """The tree of things (number, weight), cut in two by the long way, count telling the first ones."""
    if len(things) == 1:
        return things[0][0]
    many = count([weight for _, weight in things])
    share = Fraction(sum(weight for _, weight in things[:many]), sum(weight for _, weight in things))
    if high > wide:
        rooms = (wide, high * share), (wide, high * (1 - share))
    else:
        rooms = (wide * share, high), (wide * (1 - share), high)
    trees = plain_cuts(*rooms[0], things[:many], count), plain_cuts(*rooms[1], things[many:], count)
    return ("down" if high > wide else "across", trees)


def first_third(weights):
    """The count of the first ones by thirds."""
    return [k for k in range(1, len(weights)) if sum(weights[:k]) * 3 >= sum(weights)][0]


def plain_thirds(wide, high, weights):
    """The tree by thirds of a room so wide and high, reckoned plainly."""
    things = sorted(enumerate(weights), key=lambda thing: (-thing[1], thing[0]))
    return plain_cuts(wide, high, things, first_third)


def drawn_likewise(parts, room):
    """A box of four numbers, drawn in a room of three by three, drawn likewise in another room."""
    left, top, wide, high = plainly(room)
    return tuple(pair(part) for part in (
        left + parts[0] * wide / 3, top + parts[1] * high / 3, parts[2] * wide / 3, parts[3] * high / 3,
    ))


def moved_and_grown(room):
    """A room of the same shape elsewhere, greater or smaller."""
    left, top, wide, high = plainly(room)
    return tuple(pair(part) for part in (left - Fraction(5, 3), top + 11, wide * Fraction(9, 4), high * Fraction(9, 4)))


def rooms_and_weights(rooms, seed, many):
    """Each of the rooms with each list of weights, and so many small rooms with lists as the die falls."""
    for room in rooms:
        for weights in WEIGHTS:
            yield room, weights
    dice = random.Random(seed)
    for _ in range(many):
        most = dice.choice((1, 2, 6, 40, BIG))
        sides = [(dice.randint(1, 12), 1), (dice.randint(1, 12), 1)]
        yield ((1, 2), (0, 1), *sides), [dice.randint(1, most) for _ in range(dice.randint(1, 14))]


MOST_THINGS = {"order": 6, "any": 5}


def small_lists(many):
    """Lists of so few weights, of all sorts."""
    lists = [[1] * many, [2 ** at for at in range(many)], [3 ** at for at in range(many)][::-1]]
    lists += [[(at * 5 + 3) % 7 + 1 for at in range(many)], [1] * (many - 1) + [50]]
    return lists + [[BIG - at * PRIME for at in range(many)]]


def check_kind_refusals(case, ask):
    """Hold a deed that is asked of a room, weights and a kind to all its refusals, in their order."""
    for kind in ["order", "any"] + NO_KINDS:
        check_room_refusals(case, lambda room, weights: ask(room, weights, kind))
    for kind in NO_KINDS:
        for many in (1, 2, 5, 6, 7, 8, 40):
            with case.subTest(kind=kind, many=many), case.assertRaises(NoKind):
                ask(WIDE, [1] * many, kind)
    for kind, most in MOST_THINGS.items():
        ask(WIDE, [1] * most, kind)
        for many in (most + 1, most + 2, 40):
            with case.subTest(kind=kind, many=many), case.assertRaises(TooMany):
                ask(WIDE, [1] * many, kind)


def check_room_refusals(case, ask):
    """Hold a deed that is asked of a room and weights to NoBox, NoWeights, TooMany, in this order."""
    for thing in no_boxes():
        with case.subTest(room=thing), case.assertRaises(NoBox):
            ask(thing, [1, 2])
    for thing in list(NO_WEIGHTS) + list(lists_with_no_weight()):
        with case.subTest(weights=thing), case.assertRaises(NoWeights):
            ask(WIDE, thing)
        with case.subTest(weights=thing), case.assertRaises(NoBox):
            ask(None, thing)
    for many in (41, 42, 90):
        with case.subTest(many=many), case.assertRaises(TooMany):
            ask(WIDE, [1] * many)
        with case.subTest(many=many), case.assertRaises(NoBox):
            ask(list(SQUARE), [1] * many)
    weights = [3, True, 2]
    with case.assertRaises(NoWeights):
        ask(WIDE, weights)
    case.assertEqual(repr(weights), "[3, True, 2]")
