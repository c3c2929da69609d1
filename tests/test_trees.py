"""[3], [19], [20] TREES and their LEAVES; [21] what is told is handed in again."""

import itertools
import unittest

from tablebills.costs import cost, percent_at
from tablebills.dealing import deal, dealt_on
from tablebills.splitchecker import lets_split
from tablebills.splitting import split
from tablebills.trees import is_tree, leaves
from tests.samples import ANY_THINGS, HOUSE, deep

NO_COUNTS = (None, True, False, -1, -(10 ** 199), "1", "", (), (1,), [], [1], deep(20))

# A TREE of the weights 1 to 3, the second with a TREE below it, and that with another one.
TREE = ((1, ()), (2, ((1, ()), (1, ((5, ()), (0, ()), (4, ()))))), (3, ()))


def nested(levels):
    """A TREE with so many within one another, of one pair each but the lowest."""
    tree = ((2, ()), (1, ()))
    for level in range(1, levels):
        tree = ((level, tree),)
    return tree


def flat(weights):
    return tuple((weight, ()) for weight in weights)


def parted(total, tree):
    """[19] pair by pair: the leaves of each, a list of tuples."""
    parts = split(total, tuple(pair[0] for pair in tree))
    return [(part,) if pair[1] == () else leaves(part, pair[1]) for part, pair in zip(parts, tree)]


class TestLook(unittest.TestCase):
    def test_right_ones(self):
        for tree in (((1, ()),), ((0, ()), (1, ())), TREE, ((1, ((1, ()),)),), ((0, TREE), (1, ())),
                     ((10 ** 199, ()), (0, ())), flat(range(30)), ((1, TREE), (1, TREE)), nested(4)):
            self.assertIs(is_tree(tree), True, tree)

    def test_none_without_pairs(self):
        self.assertIs(is_tree(()), False)

    def test_weights_that_are_all_nought(self):
        for tree in (((0, ()),), ((0, ()), (0, ())), ((0, TREE),), ((0, TREE), (0, TREE))):
            self.assertIs(is_tree(tree), False, tree)
            self.assertIs(is_tree(((1, tree),)), False, tree)
            self.assertIs(is_tree(((1, ()), (0, tree))), False, tree)

    def test_weights(self):
        for weight in NO_COUNTS:
            for tree in (((weight, ()),), ((1, ()), (weight, ())), ((weight, ()), (1, ())), ((weight, TREE), (1, ())),
                         ((1, ((1, ()), (weight, ()))),)):
                self.assertIs(is_tree(tree), False, tree)

    def test_below(self):
        for below in (None, True, False, 0, 1, "", "()", [], [()], ((),), (1,), (1, ()), (0, ()), ((1,),), ((1, ()), 1),
                      [(1, ())], ([1, ()],), ((1, []),), ((1, None),), ((1, (), ()),), ((True, ()),), ((-1, ()),)):
            for tree in (((1, below),), ((1, ()), (0, below)), ((1, TREE), (2, below)), ((1, below), (2, TREE)),
                         ((1, ((1, below),)),)):
                self.assertIs(is_tree(tree), False, tree)

    def test_pairs(self):
        for pair in (None, True, 1, "ab", (), (1,), (1, (), ()), [1, ()], ((), 1), ((1, ()),)):
            for tree in ((pair,), ((1, ()), pair), (pair, (1, ()))):
                self.assertIs(is_tree(tree), False, tree)

    def test_lists(self):
        for tree in ([], [(1, ())], ([1, ()],), list(TREE), ((1, [(1, ())]),)):
            self.assertIs(is_tree(tree), False, tree)

    def test_twenty_within_one_another(self):
        for levels in (9, 10, 20):
            tree = ((1, ()),)
            wrong = ((0, ()),)
            for level in range(levels - 1):
                tree = ((level + 1, tree), (0, ()))
                wrong = ((level + 1, wrong), (0, ()))
            self.assertIs(is_tree(tree), True)
            self.assertIs(is_tree(wrong), False)

    def test_five_thousand(self):
        self.assertIs(is_tree(((0, ()),) * 1600 + ((1, ()),)), True)
        self.assertIs(is_tree(((0, ()),) * 1600 + ((True, ()),)), False)
        self.assertIs(is_tree(((1, ()),) * 1600 + ((1, []),)), False)

    def test_any_thing(self):
        for thing in ANY_THINGS:
            self.assertIs(is_tree(thing), False, thing)
        self.assertIs(is_tree(thing=TREE), True)


class TestLeaves(unittest.TestCase):
    def test_by_hand(self):
        # 10 by 1, 2, 3: EXACT 1 4/6, 3 2/6, 5: so 2, 3, 5; 3 by 1, 1: 2, 1; 1 by 5, 0, 4: 1, 0, 0.
        self.assertEqual(leaves(10, TREE), (2, 2, 1, 0, 0, 5))
        # 120 by 1, 2, 3: 20, 40, 60; 40: 20, 20; 20 by 5, 0, 4: EXACT 11 1/9, 0, 8 8/9.
        self.assertEqual(leaves(120, TREE), (20, 20, 11, 0, 9, 60))

    def test_from_left_to_right(self):
        tree = ((1, ((1, ()), (3, ()))), (2, ()), (1, ((3, ()), (1, ()))))
        self.assertEqual(leaves(16, tree), (1, 3, 8, 3, 1))
        self.assertEqual(leaves(16, tree[::-1]), (3, 1, 8, 1, 3))

    def test_each_part_is_parted_by_itself(self):
        # Not by the weights multiplied: 1 goes to the left pair whole, and there to its first.
        tree = ((3, ((1, ()), (1, ()), (1, ()))), (2, ()))
        self.assertEqual(leaves(1, tree), (1, 0, 0, 0))
        self.assertEqual(leaves(2, tree), (1, 0, 0, 1))

    def test_a_weight_of_nought_above_a_tree(self):
        tree = ((0, TREE), (7, ()), (0, ()))
        self.assertEqual(leaves(9, tree), (0,) * 6 + (9, 0))

    def test_one_pair_alone(self):
        self.assertEqual(leaves(9, ((4, ()),)), (9,))
        for total in (0, 1, 10, 120, 10 ** 12):
            for weight in (1, 7, 10 ** 9):
                self.assertEqual(leaves(total, ((weight, TREE),)), leaves(total, TREE))
                self.assertEqual(leaves(total, ((1, ((weight, TREE),)),)), leaves(total, TREE))

    def test_nought_and_greatest(self):
        self.assertEqual(leaves(0, TREE), (0,) * 6)
        self.assertEqual(leaves(10 ** 12, ((1, ()), (1, ((1, ()), (1, ()))))),
                         (5 * 10 ** 11, 25 * 10 ** 10, 25 * 10 ** 10))
        self.assertEqual(leaves(10 ** 12, ((10 ** 9, ()), (10 ** 9, ()), (10 ** 9, ()))),
                         (333333333334, 333333333333, 333333333333))

    def test_four_within_one_another(self):
        tree = ((1, ((1, ((1, ((1, ()), (1, ()))), (1, ()))), (1, ()))), (1, ()))
        self.assertEqual(leaves(16, tree), (1, 1, 2, 4, 8))
        self.assertEqual(leaves(31, tree), (2, 2, 4, 8, 15))

    def test_by_names(self):
        self.assertEqual(leaves(tree=TREE, total=10), (2, 2, 1, 0, 0, 5))


class TestSo(unittest.TestCase):
    """[20]"""
    TREES = (TREE, ((0, TREE), (2, TREE), (1, ())), flat(range(12)), ((5, flat((1, 2, 4))), (3, flat((0, 9)))),
             ((1, ((1, ((1, TREE), (2, ()))), (0, TREE))), (10 ** 9, ())), nested(4))
    TOTALS = (0, 1, 2, 3, 10, 99, 100, 101, 12345, 10 ** 12, 10 ** 12 - 1)

    def test_they_come_to_the_total_and_to_the_parts(self):
        for total, tree in itertools.product(self.TOTALS, self.TREES):
            told = leaves(total, tree)
            self.assertEqual(sum(told), total)
            pieces = parted(total, tree)
            self.assertEqual(told, tuple(itertools.chain(*pieces)))
            self.assertEqual(tuple(sum(piece) for piece in pieces), split(total, tuple(pair[0] for pair in tree)))

    def test_pairs_of_nothing_below_have_the_split(self):
        for total in self.TOTALS:
            for weights in ((1,), (1, 1, 1), (0, 3, 0, 4), tuple(range(12)), (10 ** 9, 1)):
                self.assertEqual(leaves(total, flat(weights)), split(total, weights))

    def test_a_weight_of_nought_has_noughts_alone(self):
        for total, tree in itertools.product(self.TOTALS, self.TREES):
            for pair, piece in zip(tree, parted(total, tree)):
                self.assertTrue(pair[0] > 0 or set(piece) == {0}, (total, tree))

    def test_one_pair_alone(self):
        for total, tree in itertools.product(self.TOTALS, self.TREES):
            self.assertEqual(leaves(total, ((3, tree),)), leaves(total, tree))


class TestHandedInAgain(unittest.TestCase):
    """[21]"""

    def test_splits_to_their_checker(self):
        weights = (5, 0, 4, 7)
        for total in leaves(1000, TREE) + deal(1001, 7, 3):
            self.assertGreaterEqual(lets_split(total, weights, split(total, weights)), 0)

    def test_dealt_pence_and_leaves_as_totals(self):
        for pence in deal(1001, 7, 3):
            self.assertEqual(sum(leaves(pence, TREE)), pence)
        for pence in leaves(1000, TREE):
            self.assertEqual(sum(deal(pence, 3, pence)), pence)

    def test_costs_as_pieces(self):
        pieces = tuple(cost(HOUSE[0], HOUSE[1], item, minute) for item in ("soup", "tea") for minute in (0, 650, 900))
        self.assertEqual(pieces, (450, 225, 500, 200, 100, 200))
        self.assertEqual([sum(hands) for hands in dealt_on(pieces, 7)], list(pieces))

    def test_percents_and_leaves_as_percents(self):
        percent = percent_at(HOUSE[1], "tea", 700)
        self.assertEqual(percent_at(((("tea",), 0, 9, percent),), "tea", 5), 50)


if __name__ == "__main__":
    unittest.main()
