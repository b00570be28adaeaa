"""Point 25: the pairs that move from one tree to another."""

import itertools
import random
import unittest

from samples import BIG, PRIME, WAYS, chain, chain_back, mixed, plain_relation, some_tree, standing_in
from weightrooms.moves import moved_pairs
from weightrooms.trees import plain_form, turned_tree


def expected_pairs(tree, other):
    """The moved pairs, by the relation of each two things that stand in both."""
    both = sorted(set(standing_in(tree)) & set(standing_in(other)))
    return [(lesser, greater) for lesser, greater in itertools.combinations(both, 2)
            if plain_relation(tree, lesser, greater) != plain_relation(other, lesser, greater)]


def some_two(seed, many):
    """So many times two trees, of things of which all, some or none stand in both."""
    dice = random.Random(seed)
    for _ in range(many):
        pool = dice.choice((list(range(8)), list(range(40)), [3, 7, 8, 20, 100, BIG, PRIME, 0], range(1000, 1012)))
        one = mixed(dice, pool)[:dice.randint(1, len(pool))]
        other = mixed(dice, one) if dice.random() < 0.4 else mixed(dice, pool)[:dice.randint(1, len(pool))]
        yield some_tree(dice, one, dice.choice((2, 3, 6))), some_tree(dice, other, dice.choice((2, 3, 6)))


class MovedPairs(unittest.TestCase):
    def test_two_things(self):
        across, down = ("across", (0, 1)), ("down", (0, 1))
        self.assertEqual(moved_pairs(across, across), [])
        self.assertEqual(moved_pairs(across, ("across", (1, 0))), [(0, 1)])
        self.assertEqual(moved_pairs(across, down), [(0, 1)])
        self.assertEqual(moved_pairs(down, across), [(0, 1)])
        self.assertEqual(moved_pairs(down, ("down", (1, 0))), [(0, 1)])
        self.assertEqual(moved_pairs(("down", (1, 0)), across), [(0, 1)])

    def test_one_thing(self):
        for one in (0, 5, BIG):
            for other in (0, 5, BIG, ("across", (0, 5)), ("down", (5, ("across", (BIG, 0))))):
                self.assertEqual(moved_pairs(one, other), [])
                self.assertEqual(moved_pairs(other, one), [])

    def test_written_out(self):
        tree = ("across", (("down", (0, 1)), ("down", (2, 3))))
        other = ("across", (("down", (0, 1)), ("down", (3, 2))))
        self.assertEqual(moved_pairs(tree, other), [(2, 3)])
        other = ("across", (("down", (0, 3)), ("down", (2, 1))))
        self.assertEqual(moved_pairs(tree, other), [(0, 1), (0, 3), (1, 2), (1, 3), (2, 3)])
        self.assertEqual(moved_pairs(tree, ("down", (("across", (0, 2)), ("across", (1, 3))))), [(0, 3), (1, 2)])

    def test_things_in_one_of_the_two_alone_do_not_count(self):
        tree = ("across", (7, ("down", (2, 9))))
        self.assertEqual(moved_pairs(tree, ("across", (9, ("down", (2, 4))))), [(2, 9)])
        self.assertEqual(moved_pairs(tree, ("down", (9, 7, 1))), [(7, 9)])
        self.assertEqual(moved_pairs(tree, ("down", (0, 1, 3))), [])
        self.assertEqual(moved_pairs(tree, ("across", (8, 9, 10))), [])

    def test_a_thing_less_or_more_moves_none(self):
        dice = random.Random(251)
        for _ in range(60):
            tree = some_tree(dice, mixed(dice, range(9)), 3)
            self.assertEqual(moved_pairs(tree, ("down", (tree, 50))), [])
            self.assertEqual(moved_pairs(("across", (BIG, tree)), tree), [])

    def test_a_tree_and_itself_and_its_plain_form(self):
        for tree, other in some_two(252, 60):
            self.assertEqual(moved_pairs(tree, tree), [])
            self.assertEqual(moved_pairs(tree, plain_form(tree)), [])
            self.assertEqual(moved_pairs(plain_form(tree), other), moved_pairs(tree, plain_form(other)))

    def test_held_against_the_relations(self):
        for tree, other in some_two(253, 250):
            told = moved_pairs(tree, other)
            self.assertIs(type(told), list)
            self.assertEqual(told, expected_pairs(tree, other), (tree, other))
            self.assertEqual(moved_pairs(other, tree), told)
            self.assertEqual(told, sorted(set(told)))
            self.assertTrue(all(type(pair) is tuple and pair[0] < pair[1] for pair in told))

    def test_turned_over_all_move(self):
        for tree, _ in some_two(254, 40):
            pairs = list(itertools.combinations(sorted(standing_in(tree)), 2))
            self.assertEqual(moved_pairs(tree, turned_tree(tree)), pairs)

    def test_chains_of_forty(self):
        numbers = [3 * at + 2 for at in range(40)]
        sorts = [WAYS, ["across"], ["down", "down", "across"]]
        makes = [(make, ways) for make in (chain, chain_back) for ways in sorts]
        for (make, ways), (again, others) in itertools.product(makes, makes):
            for order in (numbers, numbers[::-1]):
                tree, other = make(numbers, ways), again(order, others)
                self.assertEqual(moved_pairs(tree, other), expected_pairs(tree, other))
        every = list(itertools.combinations(numbers, 2))
        self.assertEqual(moved_pairs(chain(numbers, ["across"]), chain(numbers[::-1], ["across"])), every)

    def test_the_told_list_is_the_askers_own(self):
        tree, other = ("across", (0, 1, 2)), ("across", (2, 1, 0))
        first = moved_pairs(tree, other)
        first.clear()
        self.assertEqual(moved_pairs(tree, other), [(0, 1), (0, 2), (1, 2)])
        empty = moved_pairs(tree, tree)
        empty.append((0, 1))
        self.assertEqual(moved_pairs(tree, tree), [])


if __name__ == "__main__":
    unittest.main()
