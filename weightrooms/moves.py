"""What moves: the pairs of things whose relation is unlike in two trees."""


def moved_pairs(tree, other):
    """The pairs of things of both trees, the lesser first, whose relation is unlike in the two: a rising list."""
    before, behind = sides_in(tree), sides_in(other)
    return [pair for pair in sorted(before) if pair in behind and before[pair] != behind[pair]]


def sides_in(tree):
    """For each pair of a tree, the lesser first, the way that parts them and whether the lesser stands ahead."""
    sides = {}
    gather_sides(tree, sides)
    return sides


def gather_sides(tree, sides):
    """Put what is told of each pair of a tree into the dict sides; tell the things in the tree."""
    if not isinstance(tree, tuple):
        return [tree]
    way, trees = tree
    ahead = []
    for part in trees:
        things = gather_sides(part, sides)
        for one in ahead:
            for other in things:
                # The least tree that has both is this one: the two stand in unlike trees of it.
                sides[(min(one, other), max(one, other))] = (way, one < other)
        ahead = ahead + things
    return ahead
