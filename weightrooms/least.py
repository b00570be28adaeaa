"""The least worst shape of all trees of a kind, by trying each of them."""

from weightrooms.errors import NoKind, TooMany
from weightrooms.fracs import greatest_of, is_less
from weightrooms.rooms import WAYS, check_box, check_weights, parted, shape

MOST_THINGS = {"order": 6, "any": 5}


def check_kind(kind):
    """Refuse what is no kind of trees."""
    if not isinstance(kind, str) or kind not in MOST_THINGS:
        raise NoKind("this is no kind of trees")


def check_asked(room, weights, kind):
    """Refuse what the least worst is not asked of."""
    check_box(room)
    check_weights(weights)
    check_kind(kind)
    if len(weights) > MOST_THINGS[kind]:
        raise TooMany("these are more things than the kind is asked of")


def least_worst(room, weights, kind):
    """The least of the worst shapes of all trees of a kind, and a tree that has it."""
    check_asked(room, weights, kind)
    return best_tree(room, weights, kind, list(range(len(weights))))


def best_tree(room, weights, kind, numbers):
    """The least worst shape that the numbers have in a room, and a tree that has it."""
    if len(numbers) == 1:
        return (shape(room), numbers[0])
    best = None
    for cut in cuts_of(numbers, kind):
        first, second = parts_by(cut, room, weights)
        one = best_tree(first, weights, kind, cut[1])
        if best is not None and not is_less(one[0], best[0]):
            # The other part can't make the whole any better.
            continue
        other = best_tree(second, weights, kind, cut[2])
        greatest = greatest_of([one[0], other[0]])
        if best is None or is_less(greatest, best[0]):
            best = (greatest, (cut[0], (one[1], other[1])))
    return best


def lots_of(numbers, kind):
    """The lots of numbers that are cut off first, in order."""
    if kind == "order":
        return [numbers[:many] for many in range(1, len(numbers))]
    lots = [numbers[:1]]
    for number in numbers[1:]:
        # Those with a later number stand behind all without it: by the sums of the powers of 2.
        lots = lots + [lot + [number] for lot in lots]
    return lots[:-1]


def cuts_of(numbers, kind):
    """The first cuts of a rising list of numbers: tuples (way, first, second)."""
    cuts = []
    for lot in lots_of(numbers, kind):
        for way in WAYS:
            # Each cut has lists of its own, so that whoever is told them may change one alone.
            cuts.append((way, list(lot), [number for number in numbers if number not in lot]))
    return cuts


def parts_by(cut, room, weights):
    """The two parts to which a cut parts a room."""
    way, first, second = cut
    return parted(room, way, [weight_of(first, weights), weight_of(second, weights)])


def weight_of(numbers, weights):
    """The weight of the things of these numbers."""
    return sum([weights[number] for number in numbers])
