"""[5], [15], [16] Pence DEALT to hands."""

import unittest

from tablebills.dealing import deal, dealt_on
from tablebills.kinds import is_number


def dealt_by_hand(pence, many, begun):
    """[5] word by word: one for each NUMBER from begun on below begun + pence."""
    hands = [0] * many
    for number in range(begun, begun + pence):
        hands[number % many] += 1
    return tuple(hands)


class TestDeal(unittest.TestCase):
    def test_by_hand(self):
        self.assertEqual(deal(10, 3), (4, 3, 3))
        self.assertEqual(deal(10, 3, 0), (4, 3, 3))
        self.assertEqual(deal(10, 3, 1), (3, 4, 3))
        self.assertEqual(deal(10, 3, 2), (3, 3, 4))
        self.assertEqual(deal(11, 3, 2), (4, 3, 4))
        self.assertEqual(deal(1, 4, 7), (0, 0, 0, 1))
        self.assertEqual(deal(2, 4, 7), (1, 0, 0, 1))
        self.assertEqual(deal(0, 1), (0,))
        self.assertEqual(deal(7, 1, 5), (7,))

    def test_against_the_words(self):
        for many in range(1, 13):
            for begun in list(range(14)) + [97, 1000]:
                for pence in list(range(27)) + [100, 451]:
                    self.assertEqual(deal(pence, many, begun), dealt_by_hand(pence, many, begun))

    def test_no_pence(self):
        for many in range(1, 13):
            for begun in (0, 1, 5, 10 ** 12):
                self.assertEqual(deal(0, many, begun), (0,) * many)

    def test_fewer_than_many(self):
        self.assertEqual(deal(3, 12, 10), (1, 0, 0, 0, 0, 0, 0, 0, 0, 0, 1, 1))

    def test_great_ones(self):
        self.assertEqual(deal(10 ** 12, 1), (10 ** 12,))
        self.assertEqual(deal(10 ** 12, 3), (333333333334, 333333333333, 333333333333))
        self.assertEqual(deal(10 ** 12, 3, 10 ** 12), (333333333333, 333333333334, 333333333333))
        # 10 ** 12 has the rest 1 by 9 and by 3, the rest 4 by 12.
        self.assertEqual(deal(2, 9, 10 ** 12), (0, 1, 1, 0, 0, 0, 0, 0, 0))
        self.assertEqual(deal(3, 12, 10 ** 12), (0, 0, 0, 0, 1, 1, 1, 0, 0, 0, 0, 0))
        for many in range(1, 13):
            hands = deal(10 ** 12, many, 10 ** 12 - 1)
            self.assertEqual(sum(hands), 10 ** 12)
            self.assertLessEqual(set(hands), {10 ** 12 // many, 10 ** 12 // many + 1})

    def test_begun_not_handed_in(self):
        for many in range(1, 13):
            for pence in (0, 1, 5, 100):
                self.assertEqual(deal(pence, many), dealt_by_hand(pence, many, 0))

    def test_by_names(self):
        self.assertEqual(deal(pence=10, many=3), (4, 3, 3))
        self.assertEqual(deal(begun=1, many=3, pence=10), (3, 4, 3))

    def test_kinds(self):
        told = deal(10, 3, 1)
        self.assertIsInstance(told, tuple)
        self.assertEqual(len(told), 3)
        self.assertTrue(all(is_number(hand) for hand in told))


class TestDealtOn(unittest.TestCase):
    def test_none(self):
        for many in (1, 2, 12):
            self.assertEqual(dealt_on((), many), [])

    def test_by_hand(self):
        self.assertEqual(dealt_on((10, 10, 10), 3), [(4, 3, 3), (3, 4, 3), (3, 3, 4)])
        self.assertEqual(dealt_on((1, 0, 1, 5), 2), [(1, 0), (0, 0), (0, 1), (3, 2)])
        self.assertEqual(dealt_on((5,), 4), [(2, 1, 1, 1)])
        self.assertEqual(dealt_on((7, 8), 1), [(7,), (8,)])

    def test_against_the_words(self):
        for pieces in ((1,), (3, 4, 5), (0, 0, 2), (100, 1, 99, 0, 7), tuple(range(40))):
            for many in range(1, 13):
                wanted = [dealt_by_hand(pence, many, sum(pieces[:at])) for at, pence in enumerate(pieces)]
                self.assertEqual(dealt_on(pieces, many), wanted)

    def test_any_in_a_row_are_even_to_a_penny(self):
        pieces = (450, 199, 1, 0, 333, 10 ** 12, 7, 7, 7)
        for many in range(1, 13):
            told = dealt_on(pieces, many)
            for begin in range(len(pieces)):
                for end in range(begin, len(pieces) + 1):
                    hands = [sum(piece[hand] for piece in told[begin:end]) for hand in range(many)]
                    self.assertLessEqual(max(hands) - min(hands), 1)
                    self.assertEqual(sum(hands), sum(pieces[begin:end]))

    def test_by_names(self):
        self.assertEqual(dealt_on(many=2, pieces=(1, 1)), [(1, 0), (0, 1)])

    def test_kinds_and_new(self):
        first = dealt_on((10, 10), 3)
        self.assertIsInstance(first, list)
        for row in first:
            self.assertIsInstance(row, tuple)
            self.assertTrue(all(is_number(hand) for hand in row))
        first.append("more")
        first[0] = None
        self.assertEqual(dealt_on((10, 10), 3), [(4, 3, 3), (3, 4, 3)])


if __name__ == "__main__":
    unittest.main()
