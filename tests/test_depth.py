"""Tests of whocomes.party.depth: promise 1, as far as it speaks of all calls, and promise 2 of depth."""

import itertools
import unittest

from every_function import Interface, WrongPairs
from parties import ALL_OF_8, drawn_pairs, fewest_known_within, groups_of, path, ring, told_among_up_to_five
from whocomes.party import comes, depth

ALL_OF_4 = [0, 1, 0, 2, 0, 3, 1, 2, 1, 3, 2, 3]
TRIANGLE_WITH_TAIL = [0, 1, 1, 2, 2, 0, 2, 3, 3, 4]


def depth_by_groups(n, pairs):
    """Without any rounds: the greatest k that all of some group find within it; and all who are in such a group."""
    least = {frozenset(group): fewest_known_within(group, pairs) for group in groups_of(n)}
    greatest = max(least.values())
    deepest = set().union(*[group for group in least if least[group] == greatest])
    return [greatest, sum(1 << guest for guest in deepest)]


class OrdinaryInputs(unittest.TestCase):
    def test_a_depth_of_0(self):
        self.assertEqual(depth(5, []), [0, 31])

    def test_a_depth_of_1_where_all_come(self):
        self.assertEqual(depth(4, path(4)), [1, 15])
        self.assertEqual(depth(4, [0, 3, 2, 1]), [1, 15])

    def test_a_depth_of_1_where_only_some_come(self):
        self.assertEqual(depth(3, [0, 1]), [1, 3])
        self.assertEqual(depth(8, [7, 5]), [1, 160])
        self.assertEqual(depth(5, [4, 1, 1, 2]), [1, 22])

    def test_a_depth_of_2_where_all_come(self):
        self.assertEqual(depth(6, [0, 1, 1, 2, 2, 0, 3, 4, 4, 5, 5, 3]), [2, 63])
        self.assertEqual(depth(7, [0, 1, 1, 2, 2, 0, 2, 3, 3, 4, 4, 5, 5, 6, 6, 4]), [2, 127])

    def test_a_depth_of_2_where_only_some_come(self):
        self.assertEqual(depth(5, TRIANGLE_WITH_TAIL), [2, 7])
        self.assertEqual(depth(6, [1, 3, 3, 5, 5, 1, 0, 2, 2, 4]), [2, 42])
        self.assertEqual(depth(4, [0, 1, 1, 3, 3, 0]), [2, 11])

    def test_a_depth_of_3_where_all_come(self):
        self.assertEqual(depth(4, ALL_OF_4), [3, 15])
        self.assertEqual(depth(6, [0, 3, 0, 4, 0, 5, 1, 3, 1, 4, 1, 5, 2, 3, 2, 4, 2, 5]), [3, 63])

    def test_a_depth_of_3_where_only_some_come(self):
        self.assertEqual(depth(6, ALL_OF_4 + [3, 4, 4, 5]), [3, 15])
        self.assertEqual(depth(7, ALL_OF_4 + [4, 5, 5, 6, 6, 4]), [3, 15])
        self.assertEqual(depth(8, [7 - guest for guest in ALL_OF_4] + [0, 1, 1, 4, 0, 5]), [3, 240])

    def test_a_greater_depth(self):
        apart = ({0, 1}, {2, 3}, {4, 5})
        self.assertEqual(
            depth(6, [g for pair in itertools.combinations(range(6), 2) if set(pair) not in apart for g in pair]),
            [4, 63],
        )
        self.assertEqual(depth(8, [g for pair in itertools.combinations(range(7), 2) for g in pair] + [6, 7]), [6, 127])

    def test_one_who_knows_many_is_not_enough(self):
        self.assertEqual(depth(8, [0, 1, 0, 2, 0, 3, 0, 4, 0, 5, 0, 6, 0, 7]), [1, 255])

    def test_who_comes_is_told_with_the_depth_not_below(self):
        # With k of 1 all of them would come.
        self.assertEqual(depth(7, ALL_OF_4 + [4, 5, 5, 6]), [3, 15])

    def test_a_pair_told_again_counts_once(self):
        self.assertEqual(depth(2, [0, 1, 0, 1]), [1, 3])
        self.assertEqual(depth(2, [0, 1, 1, 0, 0, 1]), [1, 3])
        self.assertEqual(depth(2, [0, 1] * 28), [1, 3])
        self.assertEqual(depth(3, [0, 1, 1, 0, 2, 1, 1, 2]), [1, 7])
        self.assertEqual(depth(5, TRIANGLE_WITH_TAIL + TRIANGLE_WITH_TAIL[::-1]), [2, 7])

    def test_either_way_round_and_in_any_order_is_the_same(self):
        for turned in itertools.product((1, -1), repeat=3):
            for order in itertools.permutations([(0, 1), (1, 3), (3, 0)]):
                told = [guest for pair, way in zip(order, turned) for guest in pair[::way]]
                self.assertEqual(depth(4, told), [2, 11], told)


class Corners(unittest.TestCase):
    def test_one_guest(self):
        self.assertEqual(depth(1, []), [0, 1])

    def test_nobody_knows_anybody(self):
        for n in range(1, 9):
            self.assertEqual(depth(n, []), [0, (1 << n) - 1])

    def test_a_ring(self):
        for n in range(3, 9):
            self.assertEqual(depth(n, ring(n)), [2, (1 << n) - 1])

    def test_a_ring_with_one_pair_less(self):
        for n in range(3, 9):
            self.assertEqual(depth(n, path(n)), [1, (1 << n) - 1])
        self.assertEqual(depth(6, ring(6)[:4] + ring(6)[6:]), [1, 63])

    def test_all_28_pairs(self):
        self.assertEqual(depth(8, ALL_OF_8), [7, 255])
        self.assertEqual(depth(8, ALL_OF_8[:-2]), [6, 255])


class WrongInputs(WrongPairs, unittest.TestCase):
    def answers(self, n, pairs):
        return [depth(n, pairs)]


class AgainstTheWords(unittest.TestCase):
    def test_all_pairs_of_up_to_five(self):
        for n, pairs in told_among_up_to_five():
            self.assertEqual(depth(n, pairs), depth_by_groups(n, pairs), (n, pairs))

    def test_many_parties_of_up_to_eight(self):
        seen = set()
        for n, pairs in drawn_pairs(150):
            seen.add(depth(n, pairs)[0])
            self.assertEqual(depth(n, pairs), depth_by_groups(n, pairs), (n, pairs))
        self.assertLessEqual(set(range(6)), seen)


class AgainstComes(unittest.TestCase):
    def assert_as_comes_tells(self, n, pairs):
        greatest, who = depth(n, pairs)
        self.assertEqual(comes(n, greatest, 0, pairs)[1], who, (n, pairs))
        self.assertGreater(who, 0, (n, pairs))
        for k in range(greatest + 1, 9):
            self.assertEqual(comes(n, k, 0, pairs)[:2], [0, 0], (n, k, pairs))

    def test_with_the_depth_somebody_comes_and_with_more_nobody(self):
        for n, pairs in itertools.chain(told_among_up_to_five(), drawn_pairs(1000)):
            self.assert_as_comes_tells(n, pairs)
        self.assert_as_comes_tells(8, ALL_OF_8)


class TheInterface(Interface, unittest.TestCase):
    call = staticmethod(depth)
    NAMES = ["n", "pairs"]
    GIVEN = (
        (5, TRIANGLE_WITH_TAIL),
        (4, path(4)),
        (4, []),
        (1, []),
        (8, ALL_OF_8),
        (6, ALL_OF_4 + [3, 4, 4, 5]),
        (3, [0, 1, 2]),
        (9, [0, 1]),
        (0, []),
        (3, [0, 3]),
        (2, [0, 1] * 29),
    )

    def numbers_behind(self, first):
        return 1


if __name__ == "__main__":
    unittest.main()
