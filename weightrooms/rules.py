"""The rules: each tells a tree for each room and list of weights."""

from weightrooms.errors import NoRule
from weightrooms.rooms import check_box, check_weights, cut_in_two, long_way
from weightrooms.rows import by_falling_weights, greatest_tree, rows_tree
from weightrooms.trees import boxes_by

RULES = ("across", "down", "halves", "rows", "greatest", "thirds")


def check_rule(rule):
    """Refuse what is no rule."""
    if rule not in RULES:
        raise NoRule("this is no rule")


def rule_tree(rule, room, weights):
    """The tree that a rule tells of a room and weights."""
    check_rule(rule)
    if rule == "halves":
        return halves_tree(room, weights)
    if rule == "rows":
        return rows_tree(room, weights)
    if rule == "greatest":
        return greatest_tree(room, weights)
    if rule == "thirds":
        return thirds_tree(room, weights)
    return side_by_side(rule, room, weights)


def by_rule(rule, room, weights):
    """The boxes to which a rule parts a room by weights."""
    return boxes_by(room, weights, rule_tree(rule, room, weights))


def side_by_side(way, room, weights):
    """The tree of all things in order, cut by the one way."""
    check_box(room)
    check_weights(weights)
    if len(weights) == 1:
        return 0
    return (way, tuple(range(len(weights))))


def halves_tree(room, weights):
    """The tree of a room and weights by halves, the things in their order."""
    check_box(room)
    check_weights(weights)
    return tree_in_two(room, list(range(len(weights))), weights, nearest_to_half)


def thirds_tree(room, weights):
    """The tree of a room and weights by thirds, the things by falling weights."""
    check_box(room)
    check_weights(weights)
    numbers = by_falling_weights(weights)
    return tree_in_two(room, numbers, [weights[number] for number in numbers], fewest_to_third)


def tree_in_two(room, numbers, weights, how_many):
    """The tree of things that are cut in two on and on; how_many tells of weights how many are the first."""
    if len(numbers) == 1:
        return numbers[0]
    many = how_many(weights)
    first, second = cut_in_two(room, weights, many)
    ahead = tree_in_two(first, numbers[:many], weights[:many], how_many)
    behind = tree_in_two(second, numbers[many:], weights[many:], how_many)
    return (long_way(room), (ahead, behind))


def nearest_to_half(weights):
    """How many first weights come nearest to half of all, the least such count."""
    apart = [abs(2 * sum(weights[:many]) - sum(weights)) for many in range(1, len(weights))]
    return apart.index(min(apart)) + 1


def fewest_to_third(weights):
    """How many first weights, the fewest such, come to a third of all or more."""
    many = 1
    while 3 * sum(weights[:many]) < sum(weights):
        many += 1
    return many
