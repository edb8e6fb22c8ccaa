"""Parties that the tests of several functions share, and a list that lets nothing be changed in it."""

import itertools

REFUSED = [-22]
HIGHEST = 4294967295
ALL_OF_8 = [guest for pair in itertools.combinations(range(8), 2) for guest in pair]


def path(n):
    """Pairs of n guests in a row, each of whom knows the next."""
    return [guest for one in range(n - 1) for guest in (one, one + 1)]


def ring(n):
    """The row, closed by one pair more."""
    return path(n) + [n - 1, 0]


def guests_of(bits):
    """The guests in bits, as a set."""
    return {guest for guest in range(8) if bits >> guest & 1}


def friends_among(n, pairs):
    """For each of n guests those whom they know, as a set."""
    friends = [set() for guest in range(n)]
    for one, other in zip(pairs[::2], pairs[1::2]):
        friends[one].add(other)
        friends[other].add(one)
    return friends


def groups_that_could_come(n, k, sure, pairs):
    """Every group, as a set, in which each is sure or finds enough within it: without any cancelling."""
    friends = friends_among(n, pairs)
    return [
        group for group in [set()] + groups_of(n)
        if all(guest in sure or len(friends[guest] & group) >= k for guest in group)
    ]


def all_who_could_come(n, k, sure, pairs):
    """The guests of all those groups, as a set."""
    return set().union(*groups_that_could_come(n, k, sure, pairs))


def pairs_apart(pairs):
    """The pairs, each counted once, as a set of sets of two guests."""
    return {frozenset(pair) for pair in zip(pairs[::2], pairs[1::2])}


def fewest_known_within(group, pairs):
    """Of all in the group, as a set, the fewest of the group whom one of them knows."""
    within = [pair for pair in pairs_apart(pairs) if pair <= group]
    return min(sum(guest in pair for pair in within) for guest in group)


def groups_of(n):
    """Every group of n guests but the empty one, as a set."""
    return [guests_of(bits) for bits in range(1, 1 << n)]


class FrozenList(list):
    """A list that lets nothing be changed in it."""

    def refuse(self, *args, **kwargs):
        raise AssertionError("the list that was handed in was changed")

    __setitem__ = __delitem__ = __iadd__ = __imul__ = refuse
    append = extend = insert = pop = remove = clear = sort = reverse = refuse


def parties_of_up_to_four():
    """Every n of 1 to 4 with every choice of pairs, every k up to n and everybody who may be sure."""
    for n in range(1, 5):
        possible = list(itertools.combinations(range(n), 2))
        for told in range(1 << len(possible)):
            pairs = [g for i, pair in enumerate(possible) if told >> i & 1 for g in pair]
            for k, bits in itertools.product(range(n + 1), range(1 << n)):
                yield n, k, bits, pairs


def drawn_parties(count):
    """So many parties of 2 to 8 guests, always the same ones, with pairs told again and either way round."""
    state = 1
    for turn in range(count):
        drawn = []
        for step in range(62):
            state = (state * 1103515245 + 12345) % (1 << 31)
            drawn.append(state >> 16)
        n, k, bits = 2 + drawn[0] % 7, drawn[1] % 5, drawn[2] & drawn[3] & drawn[4]
        pairs = []
        for place in range(drawn[5] % 29):
            one = drawn[6 + place] % n
            pairs += [one, (one + 1 + drawn[34 + place] % (n - 1)) % n]
        yield n, k, bits % (1 << n), pairs


def told_among_up_to_five():
    """Every n of 1 to 5 with every choice of pairs, each told once."""
    for n in range(1, 6):
        possible = list(itertools.combinations(range(n), 2))
        for told in range(1 << len(possible)):
            yield n, [g for i, pair in enumerate(possible) if told >> i & 1 for g in pair]


def drawn_pairs(count):
    """The pairs of so many drawn parties, as drawn, and the other way about: all that they leave out."""
    for n, k, bits, pairs in drawn_parties(count):
        apart = pairs_apart(pairs)
        yield n, pairs
        yield n, [g for pair in itertools.combinations(range(n), 2) if set(pair) not in apart for g in pair]
