"""Who is left when guests cancel because too few of those they know come."""

MOST_GUESTS = 8
MOST_PAIRS = 28
MOST_ASKED = 8
NOBODY = 0
REFUSAL = -22


def pairs_are_right(n, pairs):
    """Tell whether pairs holds at most 28 pairs, each of two different ones of n guests."""
    if len(pairs) % 2 == 1 or len(pairs) > 2 * MOST_PAIRS:
        return False
    for place in range(0, len(pairs), 2):
        one = pairs[place]
        other = pairs[place + 1]
        if one == other or one >= n or other >= n:
            return False
    return True


def party_is_right(n, pairs):
    """Tell whether there are 1 to 8 guests, and the pairs are as told."""
    return 1 <= n <= MOST_GUESTS and pairs_are_right(n, pairs)


def terms_are_right(n, k, sure_bits):
    """Tell whether k is at most 8, and each bit of sure_bits is one of n guests."""
    return k <= MOST_ASKED and sure_bits >> n == 0


def how_many(bits):
    """Count the guests in bits."""
    return sum([(bits >> guest) & 1 for guest in range(MOST_GUESTS)])


def has_guest(bits, guest):
    """Tell whether guest is in bits."""
    return (bits >> guest) & 1 == 1


def least_guest(bits):
    """Give the guest with the least number in bits, which hold at least one."""
    return min([guest for guest in range(MOST_GUESTS) if has_guest(bits, guest)])


def acquaintances(n, pairs):
    """Give for each guest, as bits, those whom they know."""
    known = [0 for guest in range(n)]
    for place in range(0, len(pairs), 2):
        one = pairs[place]
        other = pairs[place + 1]
        # Joined as bits, so a pair that's told again counts once.
        known[one] = known[one] | (1 << other)
        known[other] = known[other] | (1 << one)
    return known


def who_cannot_come(k, sure_bits, known, coming):
    """Give, as bits, those of coming who aren't sure and know fewer than k of coming."""
    leaving = 0
    for guest in range(len(known)):
        if has_guest(coming, guest) and not has_guest(sure_bits, guest):
            if how_many(known[guest] & coming) < k:
                leaving = leaving | (1 << guest)
    return leaving


def left_by_rounds(k, sure_bits, known):
    """Give, as bits, all guests, and behind them who is left behind each round."""
    left = [(1 << len(known)) - 1]
    leaving = who_cannot_come(k, sure_bits, known, left[-1])
    while leaving > 0:
        left.append(left[-1] - leaving)
        leaving = who_cannot_come(k, sure_bits, known, left[-1])
    return left


def who_comes(k, sure_bits, known):
    """Give, as bits, who comes in the end."""
    return left_by_rounds(k, sure_bits, known)[-1]


def comes(n, k, sure_bits, pairs):
    """Answer how many come in the end, who (as bits), and behind how many rounds."""
    if not party_is_right(n, pairs) or not terms_are_right(n, k, sure_bits):
        return [REFUSAL]
    left = left_by_rounds(k, sure_bits, acquaintances(n, pairs))
    return [how_many(left[-1]), left[-1], len(left) - 1]


def cancels(n, k, sure_bits, pairs):
    """Answer how many cancel, one by one, and behind it these, in that order."""
    if not party_is_right(n, pairs) or not terms_are_right(n, k, sure_bits):
        return [REFUSAL]
    known = acquaintances(n, pairs)
    coming = (1 << n) - 1
    cancelled = []
    leaving = who_cannot_come(k, sure_bits, known, coming)
    while leaving > 0:
        # One alone, and then all are looked at anew: a lesser guest may be next.
        guest = least_guest(leaving)
        cancelled.append(guest)
        coming = coming - (1 << guest)
        leaving = who_cannot_come(k, sure_bits, known, coming)
    return [len(cancelled)] + cancelled


def depth(n, pairs):
    """Answer the greatest k with which, none being sure, somebody comes; then who, as bits."""
    if not party_is_right(n, pairs):
        return [REFUSAL]
    known = acquaintances(n, pairs)
    asked = MOST_ASKED
    coming = who_comes(asked, NOBODY, known)
    while coming == NOBODY and asked > 0:
        asked = asked - 1
        coming = who_comes(asked, NOBODY, known)
    return [asked, coming]


def sure(n, k, sure_bits, pairs):
    """Answer the guest who, made sure as well, brings most to come; then how many come then."""
    if not party_is_right(n, pairs) or not terms_are_right(n, k, sure_bits):
        return [REFUSAL]
    known = acquaintances(n, pairs)
    best = 0
    most = 0
    for guest in range(n):
        count = how_many(who_comes(k, sure_bits | (1 << guest), known))
        # Only more than before will do, so of like ones the least stays.
        if count > most:
            best = guest
            most = count
    return [best, most]
