"""Rings: the letters that a hand keeps, and the rows that it prints with them."""

from math import lcm

from blindkeys.errors import NoNumber, NoRings
from blindkeys.hands import HEAVIEST, NUMBERS, check_hand, needed
from blindkeys.kinds import is_row, is_whole, is_within
from blindkeys.tables import row_of, source_in, sourced, trace

MOST_RINGS = 3
MOST_IN_RINGS = 9
MOST_KEPT = 60


def far_held(hand):
    """Tell how long the clip is that a hand leaves far from all ends."""
    kept = [key[1] for key in hand if key[0] in ("copy", "cut")]
    return kept[-1] if kept else 0


class Far:
    """What a pressing of a hand does far from all ends.

    A spot is near where it is in the clip or less than its side's depth from the cursor: all
    that a pressing touches comes from there, or was typed.
    """

    def __init__(self, hand):
        held = far_held(hand)
        enough = (HEAVIEST, HEAVIEST, held)
        self.near = (needed(hand, "left", enough), needed(hand, "right", enough), held)
        self.rows = trace(sourced(hand), self.near)

    def source(self, spot):
        """Tell where the letter at a spot behind a pressing comes from."""
        return source_in(self.rows, self.near, spot)

    def is_near(self, source):
        """Tell whether a source is a near spot."""
        return source[0] in NUMBERS and source[1] < self.near[NUMBERS[source[0]]]

    def spots(self):
        """Tell all near spots."""
        left, right, held = self.near
        return row_of("left", left) + row_of("right", right) + row_of("clip", held)

    def ring_at(self, spot):
        """Tell how long the ring is that a near spot is on, or None, where it is on none."""
        source = spot
        for many in range(1, sum(self.near) + 1):
            source = self.source(source)
            if source == spot:
                return many
            if not self.is_near(source):
                return None
        return None

    def print_at(self, spot):
        """Tell where the letter comes to that is left at a spot."""
        # Whoever goes so many times back and is still near is on a ring.
        for _ in range(sum(self.near) + 1):
            spot = self.source(spot)
            if spot[0] == "typed":
                return spot
            # A hand that leaves letters on the left brings none from there, and one that
            # brings letters from the right brings the next ones from ever farther off.
            if not self.is_near(spot):
                return "first", "right"
        return "ring", self.ring_at(spot)

    def prints(self):
        """Tell what is left for good at each pressing, from the left."""
        return [self.print_at(("left", deep)) for deep in range(len(self.rows[0]) - 1, self.near[0] - 1, -1)]


def rings(hand):
    """Tell the lengths of all rings of a hand, rising."""
    check_hand(hand)
    far = Far(hand)
    found = [far.ring_at(spot) for spot in far.spots()]
    told = []
    for many in range(1, len(found) + 1):
        # Each of a ring's spots finds it.
        told.extend([many] * (found.count(many) // many))
    return told


def prints(hand):
    """Tell what a hand prints at each pressing, from the left."""
    check_hand(hand)
    return Far(hand).prints()


def round_of_prints(hand):
    """Tell behind how many pressings the prints come again, or None."""
    told = prints(hand)
    if not told or ("first", "right") in told:
        return None
    many = 1
    for thing in told:
        if thing[0] == "ring":
            many = lcm(many, thing[1])
    return many


def are_rings(thing):
    """Tell whether a thing is lengths of rings for which a hand is told."""
    if not is_row(thing) or len(thing) < 1 or len(thing) > MOST_RINGS:
        return False
    return all([is_whole(many, 1) for many in thing]) and sum(thing) <= MOST_IN_RINGS


def print_keys(ahead):
    """Tell the keys that print the letter with so many ahead of it right of the cursor."""
    if ahead == 0:
        return [("copy", 1), ("paste",)]
    return [("right", ahead), ("copy", 1), ("left", ahead), ("paste",)]


def turn_keys(many):
    """Tell the keys that put the first of so many letters behind the others, and go behind it."""
    if many == 1:
        return [("right", 1)]
    return [("cut", 1), ("right", many - 1), ("paste",)]


def printer(lengths):
    """Tell a hand that prints a ring of each length, in this order."""
    if not are_rings(lengths):
        raise NoRings("these are no lengths of one to three rings")
    # The rings lie right of the cursor, one behind the other. For nine letters it weighs at most 55.
    hand = []
    for number in range(len(lengths)):
        hand.extend(print_keys(sum(lengths[:number])))
    for many in lengths:
        hand.extend(turn_keys(many))
    hand.append(("left", sum(lengths)))
    return hand


def is_prime(number):
    """Tell whether a number from 2 on is prime."""
    return all([number % low != 0 for low in range(2, number)])


def best_with(best, prime, many):
    """Tell the greatest round of so many letters, perhaps with a ring of a power of a prime."""
    told = best[many]
    power = prime
    while power <= many:
        told = max(told, best[many - power] * power)
        power = power * prime
    return told


def longest_round(kept):
    """Tell the greatest round that rings of so many letters together can have."""
    if not is_within(kept, 0, MOST_KEPT):
        raise NoNumber("this is no number of letters from 0 to 60")
    # A round is greatest by rings whose lengths are powers of unlike primes: of a ring of any
    # other length the parts do the same with fewer letters, and letters left over stay alone.
    best = [1] * (kept + 1)
    for prime in range(2, kept + 1):
        if is_prime(prime):
            best = [best_with(best, prime, many) for many in range(kept + 1)]
    return best[kept]
