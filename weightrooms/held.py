"""Rules held against one another, over all lists of weights in their order."""

from weightrooms.errors import NoWeights
from weightrooms.fracs import is_less, is_whole
from weightrooms.rooms import MOST_WEIGHTS, check_box, check_weights
from weightrooms.rules import by_rule, check_rule
from weightrooms.shapes import worst

MOST_SUM = 8


def first_list(whole, many):
    """The first of the lists of so many weights that have a sum."""
    return [1] * (many - 1) + [whole - many + 1]


def list_behind(weights):
    """The next list by the sum, then by the count, then as lists compare."""
    check_weights(weights)
    whole, many = sum(weights), len(weights)
    # The last place that can grow by one taken from those behind it makes the least step.
    for at in range(many - 2, -1, -1):
        rest, places = sum(weights[at + 1:]), many - at - 1
        if rest > places:
            return weights[:at] + [weights[at] + 1] + first_list(rest - 1, places)
    if many < MOST_WEIGHTS and many < whole:
        return first_list(whole, many + 1)
    return [whole + 1]


def worst_by(rule, room, weights):
    """The worst shape of a rule's boxes."""
    return worst(by_rule(rule, room, weights))[0]


def first_better(one, other, room, most):
    """The first list, its sum at most most, at which the one rule's worst shape is less than the other's, or None."""
    check_rule(one)
    check_rule(other)
    check_box(room)
    if not is_whole(most) or most < 1 or most > MOST_SUM:
        raise NoWeights("this is no sum that lists are gone through to")
    weights = [1]
    while sum(weights) <= most:
        if is_less(worst_by(one, room, weights), worst_by(other, room, weights)):
            return weights
        weights = list_behind(weights)
    return None
