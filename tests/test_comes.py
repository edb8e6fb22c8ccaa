"""Tests of whocomes.party.comes: promise 1, as far as it speaks of all calls and of comes."""

import itertools
import unittest

from every_function import InterfaceWithTerms, WrongPairs, WrongTerms
from parties import ALL_OF_8, all_who_could_come, drawn_parties, friends_among, guests_of
from parties import parties_of_up_to_four, path, ring
from whocomes.party import comes


def comes_by_the_words(n, k, sure, pairs):
    """The document's words over sets, to hold the program's answers against."""
    friends = friends_among(n, pairs)
    coming = set(range(n))
    rounds = 0
    while True:
        cancel = {g for g in coming if g not in sure and len(friends[g] & coming) < k}
        if not cancel:
            return [len(coming), sum(1 << g for g in coming), rounds]
        coming -= cancel
        rounds += 1


class OrdinaryInputs(unittest.TestCase):
    def test_nobody_must_cancel(self):
        self.assertEqual(comes(4, 1, 0, [0, 1, 2, 3]), [4, 15, 0])
        self.assertEqual(comes(3, 2, 0, [0, 1, 1, 2, 2, 0]), [3, 7, 0])

    def test_one_round(self):
        self.assertEqual(comes(5, 1, 0, [0, 1, 3, 4]), [4, 27, 1])
        self.assertEqual(comes(4, 2, 0, [0, 1, 1, 2, 2, 0, 2, 3]), [3, 7, 1])

    def test_several_rounds_one_behind_another(self):
        self.assertEqual(comes(5, 2, 0, [0, 1, 1, 2, 2, 0, 2, 3, 3, 4]), [3, 7, 2])
        self.assertEqual(comes(4, 2, 0, path(4)), [0, 0, 2])
        self.assertEqual(comes(7, 2, 0, [4, 5, 5, 6, 6, 4, 4, 3, 3, 2, 2, 1, 1, 0]), [3, 112, 4])

    def test_all_of_a_round_cancel_at_once(self):
        # Whoever cancels within a round is still counted on by the others of that round.
        self.assertEqual(comes(4, 2, 8, path(4)), [1, 8, 3])
        self.assertEqual(comes(4, 2, 1, path(4)), [1, 1, 3])

    def test_who_comes_is_told_as_bits(self):
        self.assertEqual(comes(8, 1, 0, [7, 5]), [2, 160, 1])
        self.assertEqual(comes(6, 2, 0, [1, 3, 3, 5, 5, 1, 0, 2, 2, 4]), [3, 42, 2])

    def test_some_are_sure_and_some_not(self):
        self.assertEqual(comes(4, 2, 9, path(4)), [4, 15, 0])
        self.assertEqual(comes(4, 2, 5, path(4)), [3, 7, 1])
        self.assertEqual(comes(6, 2, 3, [0, 2, 1, 2, 2, 3, 1, 3, 4, 5]), [4, 15, 1])

    def test_who_is_sure_stays_though_too_few_come(self):
        self.assertEqual(comes(3, 2, 2, [0, 1, 1, 2]), [1, 2, 1])

    def test_a_pair_told_again_counts_once(self):
        self.assertEqual(comes(2, 2, 0, [0, 1, 0, 1]), [0, 0, 1])
        self.assertEqual(comes(2, 2, 0, [0, 1, 1, 0, 0, 1]), [0, 0, 1])
        self.assertEqual(comes(2, 1, 0, [1, 0, 0, 1]), [2, 3, 0])
        self.assertEqual(comes(3, 2, 0, [0, 1, 1, 0, 2, 1, 1, 2]), [0, 0, 2])

    def test_either_way_round_is_the_same(self):
        self.assertEqual(comes(5, 2, 0, [1, 0, 2, 1, 0, 2, 3, 2, 4, 3]), [3, 7, 2])
        self.assertEqual(comes(3, 1, 0, [2, 0]), comes(3, 1, 0, [0, 2]))

    def test_the_order_of_the_pairs_is_the_same(self):
        for order in itertools.permutations([(0, 1), (1, 2), (2, 0), (2, 3), (3, 4)]):
            self.assertEqual(comes(5, 2, 0, [guest for pair in order for guest in pair]), [3, 7, 2])

    def test_28_pairs_with_repeats(self):
        self.assertEqual(comes(2, 1, 0, [0, 1] * 28), [2, 3, 0])
        self.assertEqual(comes(3, 2, 0, [0, 1] * 27 + [1, 2]), [0, 0, 2])


class Corners(unittest.TestCase):
    def test_one_guest(self):
        self.assertEqual(comes(1, 0, 0, []), [1, 1, 0])
        self.assertEqual(comes(1, 1, 0, []), [0, 0, 1])
        self.assertEqual(comes(1, 1, 1, []), [1, 1, 0])
        self.assertEqual(comes(1, 8, 0, []), [0, 0, 1])

    def test_k_of_0(self):
        for n in range(1, 9):
            self.assertEqual(comes(n, 0, 0, []), [n, (1 << n) - 1, 0])
        self.assertEqual(comes(4, 0, 2, [0, 1, 2, 1]), [4, 15, 0])

    def test_nobody_knows_anybody(self):
        for n in range(1, 9):
            self.assertEqual(comes(n, 1, 0, []), [0, 0, 1])
        self.assertEqual(comes(8, 1, 144, []), [2, 144, 1])

    def test_all_sure(self):
        for n in range(1, 9):
            everybody = (1 << n) - 1
            for k in range(9):
                self.assertEqual(comes(n, k, everybody, []), [n, everybody, 0])
        self.assertEqual(comes(4, 8, 15, path(4)), [4, 15, 0])

    def test_one_sure_who_knows_nobody(self):
        self.assertEqual(comes(3, 1, 4, [0, 1]), [3, 7, 0])
        self.assertEqual(comes(3, 2, 4, [0, 1]), [1, 4, 1])

    def test_a_ring_with_k_of_2(self):
        for n in range(3, 9):
            self.assertEqual(comes(n, 2, 0, ring(n)), [n, (1 << n) - 1, 0])

    def test_a_ring_with_one_pair_less(self):
        for n in range(3, 9):
            self.assertEqual(comes(n, 2, 0, path(n)), [0, 0, (n + 1) // 2])
        self.assertEqual(comes(6, 2, 0, ring(6)[2:]), [0, 0, 3])

    def test_a_ring_with_k_of_3(self):
        self.assertEqual(comes(8, 3, 0, ring(8)), [0, 0, 1])

    def test_k_of_8(self):
        self.assertEqual(comes(8, 8, 0, ALL_OF_8), [0, 0, 1])
        self.assertEqual(comes(8, 8, 1, ALL_OF_8), [1, 1, 1])
        self.assertEqual(comes(8, 8, 127, ALL_OF_8), [7, 127, 1])
        self.assertEqual(comes(8, 8, 255, ALL_OF_8), [8, 255, 0])

    def test_all_28_pairs(self):
        self.assertEqual(comes(8, 7, 0, ALL_OF_8), [8, 255, 0])
        self.assertEqual(comes(8, 7, 0, ALL_OF_8[:-2]), [0, 0, 2])


class WrongInputs(WrongTerms, WrongPairs, unittest.TestCase):
    def answer(self, n, k, sure_bits, pairs):
        return comes(n, k, sure_bits, pairs)


class AgainstTheWords(unittest.TestCase):
    def test_all_parties_of_up_to_four(self):
        for n, k, bits, pairs in parties_of_up_to_four():
            sure = guests_of(bits)
            answer = comes(n, k, bits, pairs)
            self.assertEqual(answer, comes_by_the_words(n, k, sure, pairs), (n, k, bits, pairs))
            self.assertEqual(guests_of(answer[1]), all_who_could_come(n, k, sure, pairs), (n, k, bits, pairs))

    def test_many_parties_of_up_to_eight(self):
        for n, k, bits, pairs in drawn_parties(3000):
            self.assertEqual(
                comes(n, k, bits, pairs), comes_by_the_words(n, k, guests_of(bits), pairs), (n, k, bits, pairs)
            )


class TheInterface(InterfaceWithTerms, unittest.TestCase):
    call = staticmethod(comes)

    def numbers_behind(self, first):
        return 2


if __name__ == "__main__":
    unittest.main()
