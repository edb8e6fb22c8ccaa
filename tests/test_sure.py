"""Tests of whocomes.party.sure: promise 1, as far as it speaks of all calls, and promise 2 of sure."""

import itertools
import unittest

from every_function import InterfaceWithTerms, WrongPairs, WrongTerms
from parties import ALL_OF_8, all_who_could_come, drawn_parties, guests_of, parties_of_up_to_four, path, ring
from whocomes.party import comes, sure

TRIANGLE_WITH_TAIL = [0, 1, 1, 2, 2, 0, 2, 3, 3, 4]


def sure_by_groups(n, k, already, pairs):
    """The document's words without any cancelling: the guest and the number, of all who could come then."""
    numbers = [len(all_who_could_come(n, k, already | {guest}, pairs)) for guest in range(n)]
    return [numbers.index(max(numbers)), max(numbers)]


class OrdinaryInputs(unittest.TestCase):
    def test_one_who_brings_others_along(self):
        # Made sure, 4 keeps 3; 3 alone would keep nobody else.
        self.assertEqual(sure(5, 2, 0, TRIANGLE_WITH_TAIL), [4, 5])
        self.assertEqual(sure(5, 2, 0, [4 - guest for guest in TRIANGLE_WITH_TAIL]), [0, 5])
        # With 7 the whole row from 2 on is kept.
        self.assertEqual(sure(8, 2, 0, [0, 1, 1, 2, 2, 0, 2, 3, 3, 4, 4, 5, 5, 6, 6, 7]), [7, 8])

    def test_one_who_brings_two_along_at_once(self):
        # With 3 and 2 both 0 and 1 find three; without 3 neither does.
        self.assertEqual(sure(6, 3, 0b100, [0, 1, 0, 3, 1, 3, 0, 2, 1, 2, 4, 5]), [3, 4])

    def test_nobody_can_be_brought_along(self):
        self.assertEqual(sure(5, 3, 0, [0, 1, 1, 3, 3, 0, 2, 4, 4, 3, 3, 2]), [0, 1])
        self.assertEqual(sure(5, 3, 2, [0, 1, 1, 3, 3, 0, 2, 4, 4, 3, 3, 2]), [0, 2])

    def test_some_sure_already(self):
        self.assertEqual(sure(4, 2, 1, path(4)), [3, 4])
        self.assertEqual(sure(4, 2, 8, path(4)), [0, 4])
        # But for 2 all come: 1, 4 and 5 lie between 0 and 3.
        self.assertEqual(sure(6, 2, 0b1001, [0, 1, 1, 2, 3, 4, 4, 5, 5, 1]), [2, 6])
        # 6 keeps all from the one who's sure on; 0 brings as many in the middle, fewer ahead of it.
        self.assertEqual(sure(7, 2, 0b1001, path(7)), [6, 7])
        self.assertEqual(sure(7, 2, 0b1000, path(7)), [0, 4])
        self.assertEqual(sure(7, 2, 0b100, path(7)), [6, 5])

    def test_of_like_ones_the_least(self):
        self.assertEqual(sure(4, 1, 0, [0, 1]), [2, 3])
        self.assertEqual(sure(4, 1, 0, [2, 3]), [0, 3])
        self.assertEqual(sure(6, 1, 0, [2, 5, 3, 4]), [0, 5])
        self.assertEqual(sure(5, 2, 4, path(5)), [0, 3])
        self.assertEqual(sure(4, 2, 0, path(4)), [0, 1])
        # 2 and 4 bring as many, 5 and 6 fewer.
        self.assertEqual(sure(7, 2, 0, [0, 1, 1, 3, 3, 0, 2, 5, 5, 0, 4, 6, 6, 1]), [2, 5])

    def test_a_greater_one_who_brings_more_is_told(self):
        self.assertEqual(sure(7, 2, 0, [0, 1, 1, 3, 3, 0, 2, 5, 5, 6, 6, 0, 4, 3]), [2, 6])
        self.assertEqual(sure(7, 2, 0, [0, 1, 1, 3, 3, 0, 6, 5, 5, 2, 2, 0, 4, 3]), [6, 6])

    def test_one_who_is_sure_already(self):
        self.assertEqual(sure(4, 2, 9, path(4)), [0, 4])
        self.assertEqual(sure(3, 8, 7, []), [0, 3])
        self.assertEqual(sure(3, 2, 1, ring(3)), [0, 3])

    def test_one_who_comes_already(self):
        self.assertEqual(sure(3, 2, 0, ring(3)), [0, 3])
        self.assertEqual(sure(4, 2, 8, [3, 1, 1, 0, 0, 3, 2, 0, 2, 1]), [0, 4])

    def test_who_does_not_come_yet_is_ahead_of_a_lesser_one_who_does(self):
        self.assertEqual(sure(4, 2, 0, ring(3)), [3, 4])
        self.assertEqual(sure(4, 1, 3, []), [2, 3])

    def test_a_pair_told_again_counts_once(self):
        self.assertEqual(sure(3, 2, 1, [0, 1, 1, 0, 2, 1, 1, 2]), [2, 3])
        self.assertEqual(sure(2, 2, 0, [0, 1, 1, 0, 0, 1]), [0, 1])
        self.assertEqual(sure(2, 2, 0, [0, 1] * 28), [0, 1])
        self.assertEqual(sure(5, 2, 0, TRIANGLE_WITH_TAIL + TRIANGLE_WITH_TAIL[::-1]), [4, 5])

    def test_either_way_round_and_in_any_order_is_the_same(self):
        for turned in itertools.product((1, -1), repeat=4):
            for order in itertools.permutations([(0, 1), (1, 2), (2, 3), (3, 4)]):
                told = [guest for pair, way in zip(order, turned) for guest in pair[::way]]
                self.assertEqual(sure(5, 2, 1, told), [4, 5], told)


class Corners(unittest.TestCase):
    def test_one_guest(self):
        for k, bits in itertools.product(range(9), (0, 1)):
            self.assertEqual(sure(1, k, bits, []), [0, 1])

    def test_k_of_0(self):
        for n in range(1, 9):
            self.assertEqual(sure(n, 0, 0, []), [0, n])
        self.assertEqual(sure(4, 0, 2, [0, 1, 2, 1]), [0, 4])

    def test_nobody_knows_anybody(self):
        for n in range(1, 9):
            self.assertEqual(sure(n, 1, 0, []), [0, 1])
        self.assertEqual(sure(8, 1, 144, []), [0, 3])
        self.assertEqual(sure(8, 1, 0b1011, []), [2, 4])
        self.assertEqual(sure(8, 1, 0b1111111, []), [7, 8])

    def test_all_sure(self):
        for n in range(1, 9):
            for k in range(9):
                self.assertEqual(sure(n, k, (1 << n) - 1, []), [0, n])
        self.assertEqual(sure(4, 8, 15, path(4)), [0, 4])

    def test_one_sure_who_knows_nobody(self):
        self.assertEqual(sure(3, 1, 4, [0, 1]), [0, 3])
        self.assertEqual(sure(3, 2, 4, [0, 1]), [0, 2])
        self.assertEqual(sure(3, 2, 1, [2, 1]), [1, 2])

    def test_a_ring_with_k_of_2(self):
        for n in range(3, 9):
            self.assertEqual(sure(n, 2, 0, ring(n)), [0, n])

    def test_a_ring_with_one_pair_less(self):
        for n in range(3, 9):
            self.assertEqual(sure(n, 2, 0, path(n)), [0, 1])
            self.assertEqual(sure(n, 2, 1, path(n)), [n - 1, n])
            self.assertEqual(sure(n, 2, 1 << (n - 1), path(n)), [0, n])
        # Without the pair of 2 and 3, and 2 sure: the row ends with 3.
        self.assertEqual(sure(6, 2, 4, ring(6)[:4] + ring(6)[6:]), [3, 6])

    def test_k_of_8(self):
        self.assertEqual(sure(8, 8, 0, ALL_OF_8), [0, 1])
        self.assertEqual(sure(8, 8, 1, ALL_OF_8), [1, 2])
        self.assertEqual(sure(8, 8, 127, ALL_OF_8), [7, 8])
        self.assertEqual(sure(8, 8, 255, ALL_OF_8), [0, 8])

    def test_all_28_pairs(self):
        self.assertEqual(sure(8, 7, 0, ALL_OF_8), [0, 8])
        self.assertEqual(sure(8, 7, 0, ALL_OF_8[:-2]), [0, 1])
        self.assertEqual(sure(8, 7, 64, ALL_OF_8[:-2]), [7, 8])


class WrongInputs(WrongTerms, WrongPairs, unittest.TestCase):
    def answer(self, n, k, sure_bits, pairs):
        return sure(n, k, sure_bits, pairs)


class AgainstTheWords(unittest.TestCase):
    def assert_by_groups(self, n, k, bits, pairs):
        self.assertEqual(sure(n, k, bits, pairs), sure_by_groups(n, k, guests_of(bits), pairs), (n, k, bits, pairs))

    def test_all_parties_of_up_to_four(self):
        for party in parties_of_up_to_four():
            self.assert_by_groups(*party)

    def test_many_parties_of_up_to_eight(self):
        for party in drawn_parties(200):
            self.assert_by_groups(*party)


class AgainstComes(unittest.TestCase):
    def test_so_many_come_and_with_no_other_more_and_with_no_lesser_as_many(self):
        for n, k, bits, pairs in itertools.chain(parties_of_up_to_four(), drawn_parties(1500)):
            guest, number = sure(n, k, bits, pairs)
            come = [comes(n, k, bits | 1 << other, pairs)[0] for other in range(n)]
            self.assertEqual(come[guest], number, (n, k, bits, pairs))
            self.assertTrue(all(others <= number for others in come), (n, k, bits, pairs))
            self.assertTrue(all(others < number for others in come[:guest]), (n, k, bits, pairs))


class TheInterface(InterfaceWithTerms, unittest.TestCase):
    call = staticmethod(sure)

    def numbers_behind(self, first):
        return 1


if __name__ == "__main__":
    unittest.main()
