"""Tests of promise 3, sentence by sentence, over the whole program."""

import itertools
import unittest

from parties import ALL_OF_8, drawn_pairs, drawn_parties, fewest_known_within, friends_among, groups_of
from parties import groups_that_could_come, guests_of, pairs_apart, parties_of_up_to_four, path, ring
from parties import told_among_up_to_five
from whocomes.party import cancels, comes, depth, sure


def left_by_all_orders(n, k, already, pairs):
    """Who may be left when nobody must cancel any more, whoever of those who can't come is next each time."""
    friends = friends_among(n, pairs)
    ends, seen, open_yet = set(), set(), [frozenset(range(n))]
    while open_yet:
        coming = open_yet.pop()
        cannot = [g for g in coming if g not in already and len(friends[g] & coming) < k]
        if not cannot:
            ends.add(coming)
        for next_left in [coming - {guest} for guest in cannot]:
            if next_left not in seen:
                seen.add(next_left)
                open_yet.append(next_left)
    return ends


def rooms_are_enough(rooms, n, pairs):
    """Tell whether all can be put into so many rooms, in none of which two know one another."""
    friends = friends_among(n, pairs)
    room_of = {}

    def others_find_room(guest):
        if guest == n:
            return True
        for room in range(rooms):
            if all(room_of[other] != room for other in friends[guest] if other < guest):
                room_of[guest] = room
                if others_find_room(guest + 1):
                    return True
        return False

    return others_find_room(0)


def some_parties():
    """All small parties, and drawn ones of up to eight guests."""
    return itertools.chain(parties_of_up_to_four(), drawn_parties(200))


def some_pairs():
    """All that can be told of few guests, and what is drawn of up to eight, with the document's corners."""
    yield from told_among_up_to_five()
    yield from drawn_pairs(150)
    for n in range(3, 9):
        yield n, path(n)
        yield n, ring(n)
    yield 8, ALL_OF_8
    yield 8, ALL_OF_8[2:]


class ThoseWhoCome(unittest.TestCase):
    def test_they_could_come_together_and_all_who_could_are_among_them(self):
        for n, k, bits, pairs in some_parties():
            already = guests_of(bits)
            who = guests_of(comes(n, k, bits, pairs)[1])
            groups = groups_that_could_come(n, k, already, pairs)
            self.assertIn(who, groups, (n, k, bits, pairs))
            self.assertTrue(already <= who, (n, k, bits, pairs))
            self.assertTrue(all(group <= who for group in groups), (n, k, bits, pairs))

    def test_it_holds_of_those_who_come_with_the_depth(self):
        for n, pairs in some_pairs():
            greatest, bits = depth(n, pairs)
            groups = groups_that_could_come(n, greatest, set(), pairs)
            self.assertIn(guests_of(bits), groups, (n, pairs))
            self.assertTrue(all(group <= guests_of(bits) for group in groups), (n, pairs))

    def test_it_holds_of_those_who_come_with_one_more_made_sure(self):
        for n, k, bits, pairs in some_parties():
            guest, number = sure(n, k, bits, pairs)
            groups = groups_that_could_come(n, k, guests_of(bits) | {guest}, pairs)
            self.assertEqual(max(len(group) for group in groups), number, (n, k, bits, pairs))


class InWhateverOrder(unittest.TestCase):
    def test_the_same_come_and_as_many_cancelled(self):
        for n, k, bits, pairs in some_parties():
            number, who, rounds = comes(n, k, bits, pairs)
            cancelled = cancels(n, k, bits, pairs)
            ends = left_by_all_orders(n, k, guests_of(bits), pairs)
            self.assertEqual(ends, {frozenset(guests_of(who))}, (n, k, bits, pairs))
            self.assertEqual(set(range(n)) - set(cancelled[1:]), guests_of(who), (n, k, bits, pairs))
            self.assertEqual((cancelled[0], number), (n - len(guests_of(who)), n - cancelled[0]), (n, k, bits, pairs))


class MoreOrFewer(unittest.TestCase):
    def assert_no_fewer(self, fewer, more):
        """Of two parties: whoever comes to the one comes to the other, and with one more sure no fewer come either."""
        number, who, rounds = comes(*fewer)
        number_then, who_then, rounds_then = comes(*more)
        self.assertLessEqual(number, number_then, (fewer, more))
        self.assertEqual(who & who_then, who, (fewer, more))
        self.assertGreaterEqual(cancels(*fewer)[0], cancels(*more)[0], (fewer, more))
        self.assertLessEqual(sure(*fewer)[1], sure(*more)[1], (fewer, more))

    def test_with_a_greater_k_no_more(self):
        for n, k, bits, pairs in some_parties():
            for greater in (k + 1, 8):
                self.assert_no_fewer((n, greater, bits, pairs), (n, k, bits, pairs))
        for k in range(8):
            self.assert_no_fewer((8, k + 1, 0, ALL_OF_8), (8, k, 0, ALL_OF_8))

    def test_with_more_who_are_sure_no_fewer(self):
        for n, k, bits, pairs in some_parties():
            for guest in set(range(n)) - guests_of(bits):
                self.assert_no_fewer((n, k, bits, pairs), (n, k, bits | 1 << guest, pairs))

    def test_with_more_who_know_one_another_no_fewer(self):
        for n, k, bits, pairs in some_parties():
            for pair in itertools.combinations(range(n), 2):
                if len(pairs) < 56 and set(pair) not in pairs_apart(pairs):
                    self.assert_no_fewer((n, k, bits, pairs), (n, k, bits, pairs + list(pair)))

    def test_one_made_sure_brings_at_least_as_many(self):
        for n, k, bits, pairs in some_parties():
            number = comes(n, k, bits, pairs)[0]
            self.assertGreaterEqual(sure(n, k, bits, pairs)[1], min(number + 1, n), (n, k, bits, pairs))


class TheDepth(unittest.TestCase):
    def test_one_room_more_than_the_depth_is_enough(self):
        for n, pairs in some_pairs():
            self.assertTrue(rooms_are_enough(depth(n, pairs)[0] + 1, n, pairs), (n, pairs))

    def test_so_many_rooms_as_the_depth_are_not_always_enough(self):
        for n, pairs in ((1, []), (2, [0, 1]), (5, ring(5)), (8, ALL_OF_8)):
            self.assertFalse(rooms_are_enough(depth(n, pairs)[0], n, pairs), (n, pairs))

    def test_in_each_group_somebody_knows_at_most_so_many_of_it(self):
        for n, pairs in some_pairs():
            greatest = depth(n, pairs)[0]
            for group in groups_of(n):
                self.assertLessEqual(fewest_known_within(group, pairs), greatest, (n, pairs, group))

    def test_at_most_so_many_pairs_as_the_depth_times_all_guests(self):
        for n, pairs in some_pairs():
            self.assertLessEqual(len(pairs_apart(pairs)), depth(n, pairs)[0] * n, (n, pairs))
        # Told 28 times it is still one pair.
        self.assertEqual(depth(2, [0, 1] * 28)[0] * 2, 2)

    def test_if_each_knows_at_least_k_the_depth_is_at_least_k(self):
        for n, pairs in some_pairs():
            fewest = min(len(friends) for friends in friends_among(n, pairs))
            greatest, who = depth(n, pairs)
            self.assertGreaterEqual(greatest, fewest, (n, pairs))
            if greatest == fewest:
                self.assertEqual(who, (1 << n) - 1, (n, pairs))


if __name__ == "__main__":
    unittest.main()
