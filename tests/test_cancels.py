"""Tests of whocomes.party.cancels: promise 1, as far as it speaks of all calls and of cancels; of promise 3, orders."""

import itertools
import unittest

from every_function import InterfaceWithTerms, WrongPairs, WrongTerms
from parties import ALL_OF_8, drawn_parties, friends_among, guests_of, parties_of_up_to_four, path, ring
from whocomes.party import cancels, comes


def cancels_in_order(n, k, sure, pairs, order):
    """Over sets, by the document's words: of those who can't come, the one who is first in order is always next."""
    friends = friends_among(n, pairs)
    coming = set(range(n))
    gone = []
    while True:
        cannot = [g for g in order if g in coming and g not in sure and len(friends[g] & coming) < k]
        if not cannot:
            return gone
        gone.append(cannot[0])
        coming.remove(cannot[0])


class OrdinaryInputs(unittest.TestCase):
    def test_nobody_cancels(self):
        self.assertEqual(cancels(4, 1, 0, [0, 1, 2, 3]), [0])
        self.assertEqual(cancels(3, 2, 0, [0, 1, 1, 2, 2, 0]), [0])
        self.assertEqual(cancels(4, 2, 9, path(4)), [0])

    def test_everybody_cancels(self):
        self.assertEqual(cancels(4, 2, 0, path(4)), [4, 0, 1, 2, 3])
        self.assertEqual(cancels(3, 2, 0, [0, 2, 2, 1]), [3, 0, 1, 2])
        self.assertEqual(cancels(8, 7, 0, ALL_OF_8[:-2]), [8, 6, 0, 1, 2, 3, 4, 5, 7])

    def test_some_cancel(self):
        self.assertEqual(cancels(4, 2, 0, [0, 1, 1, 2, 2, 0, 2, 3]), [1, 3])
        self.assertEqual(cancels(5, 1, 0, [0, 1, 3, 4]), [1, 2])
        self.assertEqual(cancels(8, 1, 0, [7, 5]), [6, 0, 1, 2, 3, 4, 6])

    def test_the_number_is_told_first_and_guest_0_as_0(self):
        self.assertEqual(cancels(4, 2, 0, [1, 2, 2, 3, 3, 1]), [1, 0])
        self.assertEqual(cancels(4, 2, 0, [1, 2, 2, 3, 3, 1, 1, 0]), [1, 0])

    def test_a_lesser_guest_cancels_behind_a_greater_one(self):
        self.assertEqual(cancels(5, 2, 0, [0, 3, 0, 1, 1, 2, 2, 4, 4, 1]), [2, 3, 0])
        self.assertEqual(cancels(5, 2, 0, [0, 1, 1, 2, 2, 0, 2, 3, 3, 4]), [2, 4, 3])
        self.assertEqual(cancels(7, 2, 0, [4, 5, 5, 6, 6, 4, 4, 0, 0, 1, 1, 2, 2, 3]), [4, 3, 2, 1, 0])

    def test_all_are_looked_at_anew_behind_each_one(self):
        # 2 and 4 can't come from the start, but 2 draws 0 along, who is then the least.
        self.assertEqual(cancels(6, 2, 0, [1, 3, 3, 5, 5, 1, 0, 1, 0, 2, 4, 1]), [3, 2, 0, 4])

    def test_whom_one_draws_along_waits_for_a_lesser_one(self):
        # 0 draws 5 along, but 2 and 4 couldn't come either, and are less.
        self.assertEqual(cancels(8, 2, 0, [1, 3, 3, 7, 7, 1, 5, 0, 5, 1, 2, 1, 4, 1, 6, 1, 6, 3]), [4, 0, 2, 4, 5])

    def test_the_order_is_not_that_of_the_rounds(self):
        # By rounds 0 and 3 would be ahead of 1 and 2; 0, 5 ahead of 1, 4 ahead of 2, 3.
        self.assertEqual(cancels(4, 2, 0, path(4)), [4, 0, 1, 2, 3])
        self.assertEqual(cancels(6, 2, 0, path(6)), [6, 0, 1, 2, 3, 4, 5])

    def test_some_are_sure_and_some_not(self):
        self.assertEqual(cancels(4, 2, 5, path(4)), [1, 3])
        self.assertEqual(cancels(4, 2, 8, path(4)), [3, 0, 1, 2])
        self.assertEqual(cancels(4, 2, 1, path(4)), [3, 3, 2, 1])
        self.assertEqual(cancels(6, 2, 3, [0, 2, 1, 2, 2, 3, 1, 3, 4, 5]), [2, 4, 5])

    def test_who_is_sure_stays_though_too_few_come(self):
        self.assertEqual(cancels(3, 2, 2, [0, 1, 1, 2]), [2, 0, 2])

    def test_a_pair_told_again_counts_once(self):
        self.assertEqual(cancels(2, 2, 0, [0, 1, 0, 1]), [2, 0, 1])
        self.assertEqual(cancels(2, 2, 0, [0, 1, 1, 0, 0, 1]), [2, 0, 1])
        self.assertEqual(cancels(2, 1, 0, [1, 0, 0, 1]), [0])
        self.assertEqual(cancels(3, 2, 1, [0, 1, 1, 0, 2, 1, 1, 2]), [2, 2, 1])

    def test_either_way_round_is_the_same(self):
        self.assertEqual(cancels(5, 2, 0, [1, 0, 2, 1, 0, 2, 3, 2, 4, 3]), [2, 4, 3])
        self.assertEqual(cancels(3, 1, 0, [2, 0]), [1, 1])
        self.assertEqual(cancels(3, 1, 0, [0, 2]), [1, 1])

    def test_the_order_of_the_pairs_is_the_same(self):
        for order in itertools.permutations([(0, 1), (1, 2), (2, 0), (2, 3), (3, 4)]):
            self.assertEqual(cancels(5, 2, 0, [guest for pair in order for guest in pair]), [2, 4, 3])

    def test_28_pairs_with_repeats(self):
        self.assertEqual(cancels(2, 1, 0, [0, 1] * 28), [0])
        self.assertEqual(cancels(3, 2, 1, [0, 1] * 27 + [1, 2]), [2, 2, 1])


class Corners(unittest.TestCase):
    def test_one_guest(self):
        self.assertEqual(cancels(1, 0, 0, []), [0])
        self.assertEqual(cancels(1, 1, 0, []), [1, 0])
        self.assertEqual(cancels(1, 1, 1, []), [0])
        self.assertEqual(cancels(1, 8, 0, []), [1, 0])
        self.assertEqual(cancels(1, 8, 1, []), [0])

    def test_k_of_0(self):
        for n in range(1, 9):
            self.assertEqual(cancels(n, 0, 0, []), [0])
        self.assertEqual(cancels(4, 0, 2, [0, 1, 2, 1]), [0])

    def test_nobody_knows_anybody(self):
        for n in range(1, 9):
            self.assertEqual(cancels(n, 1, 0, []), [n] + list(range(n)))
        self.assertEqual(cancels(8, 1, 144, []), [6, 0, 1, 2, 3, 5, 6])

    def test_all_sure(self):
        for n in range(1, 9):
            for k in range(9):
                self.assertEqual(cancels(n, k, (1 << n) - 1, []), [0])
        self.assertEqual(cancels(4, 8, 15, path(4)), [0])

    def test_one_sure_who_knows_nobody(self):
        self.assertEqual(cancels(3, 1, 4, [0, 1]), [0])
        self.assertEqual(cancels(3, 2, 4, [0, 1]), [2, 0, 1])

    def test_a_ring_with_k_of_2(self):
        for n in range(3, 9):
            self.assertEqual(cancels(n, 2, 0, ring(n)), [0])

    def test_a_ring_with_one_pair_less(self):
        for n in range(3, 9):
            self.assertEqual(cancels(n, 2, 0, path(n)), [n] + list(range(n)))
        # Without the pair of 2 and 3: 2, then 1, who no longer finds 2, then 0, and 3 only now.
        self.assertEqual(cancels(6, 2, 0, ring(6)[:4] + ring(6)[6:]), [6, 2, 1, 0, 3, 4, 5])

    def test_a_ring_with_k_of_3(self):
        self.assertEqual(cancels(8, 3, 0, ring(8)), [8, 0, 1, 2, 3, 4, 5, 6, 7])

    def test_k_of_8(self):
        self.assertEqual(cancels(8, 8, 0, ALL_OF_8), [8, 0, 1, 2, 3, 4, 5, 6, 7])
        self.assertEqual(cancels(8, 8, 1, ALL_OF_8), [7, 1, 2, 3, 4, 5, 6, 7])
        self.assertEqual(cancels(8, 8, 127, ALL_OF_8), [1, 7])
        self.assertEqual(cancels(8, 8, 255, ALL_OF_8), [0])

    def test_all_28_pairs(self):
        self.assertEqual(cancels(8, 7, 0, ALL_OF_8), [0])


class WrongInputs(WrongTerms, WrongPairs, unittest.TestCase):
    def answer(self, n, k, sure_bits, pairs):
        return cancels(n, k, sure_bits, pairs)


class AgainstTheWords(unittest.TestCase):
    def assert_by_the_words(self, n, k, bits, pairs):
        gone = cancels_in_order(n, k, guests_of(bits), pairs, range(n))
        self.assertEqual(cancels(n, k, bits, pairs), [len(gone)] + gone, (n, k, bits, pairs))

    def test_all_parties_of_up_to_four(self):
        for party in parties_of_up_to_four():
            self.assert_by_the_words(*party)

    def test_many_parties_of_up_to_eight(self):
        for party in drawn_parties(3000):
            self.assert_by_the_words(*party)


class InWhateverOrder(unittest.TestCase):
    def assert_together_all(self, n, k, bits, pairs):
        number, *gone = cancels(n, k, bits, pairs)
        come, who, rounds = comes(n, k, bits, pairs)
        self.assertEqual(sorted(gone + list(guests_of(who))), list(range(n)), (n, k, bits, pairs))
        self.assertEqual((number, number + come), (len(gone), n), (n, k, bits, pairs))

    def test_who_cancels_and_who_comes_are_together_all(self):
        for party in itertools.chain(parties_of_up_to_four(), drawn_parties(3000)):
            self.assert_together_all(*party)

    def test_any_order_ends_with_the_same_who_cancelled(self):
        for n, k, bits, pairs in drawn_parties(200):
            gone = sorted(cancels(n, k, bits, pairs)[1:])
            for order in (range(n)[::-1], sorted(range(n), key=lambda g: g * 3 % 8), (5, 2, 7, 0, 4, 1, 6, 3)):
                other = cancels_in_order(n, k, guests_of(bits), pairs, order)
                self.assertEqual(sorted(other), gone, (n, k, bits, pairs, list(order)))


class TheInterface(InterfaceWithTerms, unittest.TestCase):
    call = staticmethod(cancels)

    def numbers_behind(self, first):
        return first


if __name__ == "__main__":
    unittest.main()
