"""Courses: how lengths go on when a hand is pressed again and again."""

from blindkeys.errors import NoTimes
from blindkeys.hands import HEAVIEST, NUMBERS, SIDES, check_hand, go, needed, reach
from blindkeys.kinds import is_within
from blindkeys.tables import check_lengths

MOST_PRESSINGS = 10 ** 30

# For fewer rounds than these it is not worth while to jump.
FEW_ROUNDS = 10


def check_times(thing):
    """Refuse what is no number of pressings."""
    if not is_within(thing, 0, MOST_PRESSINGS):
        raise NoTimes("this is no number of pressings from 0 to 10 ** 30")


def short(lengths, far):
    """Tell the short lengths, on which a pressing's table hangs; far are the hand's reaches."""
    return min(lengths[0], far[0]), min(lengths[1], far[1]), lengths[2]


def more(lengths, gain, times):
    """Tell lengths with so many times a gain more on both sides."""
    return lengths[0] + gain[0] * times, lengths[1] + gain[1] * times, lengths[2]


def gained(ahead, later):
    """Tell how many letters more there are left and right later."""
    return later[0] - ahead[0], later[1] - ahead[1]


def soonest(numbers):
    """Tell the least of numbers, some of which may be None: never. Where all are, it is None."""
    return min([number for number in numbers if number is not None], default=None)


def pressed(hand, lengths):
    """Tell the lengths behind one pressing."""
    for key in hand:
        lengths = go(key, lengths)
    return lengths


def cut_in(hand, lengths):
    """Tell the first key of one pressing that is cut short, or None."""
    for number, key in enumerate(hand):
        if key[0] in SIDES and key[1] > lengths[NUMBERS[SIDES[key[0]]]]:
            return number
        lengths = go(key, lengths)
    return None


def lengths_in(steps, gain, many):
    """Tell the lengths so many pressings behind the first one of a leg."""
    rounds, rest = divmod(many, len(steps))
    return more(steps[rest], gain, rounds)


def lengths_at(legs, when):
    """Tell the lengths ahead of the pressing of this number."""
    start, _, steps, gain = [leg for leg in legs if leg[0] <= when][-1]
    return lengths_in(steps, gain, when - start)


class Trip:
    """Pressing a hand again and again: the lengths ahead of each pressing, kept by legs.

    A leg is a tuple (start, many, steps, gain): from the pressing of number start on there
    are so many pressings, or None: for ever. The steps are the lengths ahead of the first
    ones; behind as many pressings as steps the short lengths are the same again, with the
    gain more left and right.
    """

    def __init__(self, hand, lengths, end):
        self.hand = hand
        self.far = (reach(hand, "left"), reach(hand, "right"))
        self.end = end
        self.gone = 0
        self.here = tuple(lengths)
        self.legs = []
        self.moves = {}
        # Since the last leg: the lengths, where short ones were last, and where each side
        # last had fewer letters than its reach.
        self.steps = []
        self.latest = {}
        self.dips = [-1, -1]

    def run(self):
        """Press to the end, or, where there is none, until the short lengths go by a round."""
        while self.gone != self.end:
            if not self.jump():
                self.step()
        self.close()

    def step(self):
        """Press once."""
        near = short(self.here, self.far)
        if near not in self.moves:
            later = pressed(self.hand, near)
            self.moves[near] = (gained(near, later), later[2])
        for side in (0, 1):
            if self.here[side] < self.far[side]:
                self.dips[side] = len(self.steps)
        self.latest[near] = len(self.steps)
        self.steps.append(self.here)
        gain, held = self.moves[near]
        self.here = (self.here[0] + gain[0], self.here[1] + gain[1], held)
        self.gone += 1

    def close(self):
        """Make one leg of the pressings since the last leg."""
        if self.steps:
            many = len(self.steps)
            gain = gained(self.steps[0], self.here)
            self.legs.append((self.gone - many, many, self.steps, gain))
        self.steps = []
        self.latest = {}
        self.dips = [-1, -1]

    def jump(self):
        """Go many rounds at once, and tell whether there were so many."""
        # More letters ahead of a pressing never come to fewer behind it. So sooner or later
        # there are as many or more everywhere than by some lengths before, and from then on
        # by each round: the short lengths settle, and it is enough to know where they were last.
        at = self.latest.get(short(self.here, self.far))
        if at is None:
            return False
        gain = gained(self.steps[at], self.here)
        rounds = soonest([self.lasting(side, at, gain[side]) for side in (0, 1)])
        if rounds is not None and rounds < FEW_ROUNDS:
            return False
        steps = [more(step, gain, 1) for step in self.steps[at:]]
        self.close()
        self.leap(steps, gain, rounds)
        return True

    def lasting(self, side, at, gain):
        """Tell how many rounds like the one since a step a side has letters for, or None: for ever.

        By a round lengths go on for as long as each side has the gain nought, or never has
        fewer letters than its reach.
        """
        if gain == 0:
            return None
        if self.dips[side] >= at:
            return 0
        if gain > 0:
            return None
        # Where there are few rounds by this step alone, the others are not looked at.
        if (self.here[side] - self.far[side]) // -gain < FEW_ROUNDS:
            return 0
        low = min([step[side] for step in self.steps[at:]]) + gain
        return (low - self.far[side]) // -gain + 1

    def leap(self, steps, gain, rounds):
        """Make a leg of so many rounds (None: for ever), but not beyond the end."""
        many = None if rounds is None else rounds * len(steps)
        if self.end is not None and (many is None or many > self.end - self.gone):
            many = self.end - self.gone
        self.legs.append((self.gone, many, steps, gain))
        if many is None:
            self.gone = None
        else:
            self.here = lengths_in(steps, gain, many)
            self.gone += many


def trip_of(hand, lengths, end):
    """Tell the trip of so many pressings, or, where the end is None, of a whole course."""
    trip = Trip(hand, lengths, end)
    trip.run()
    return trip


def lower_behind(have, need, gain):
    """Tell behind how many pressings there are fewer letters than needed, or None: never."""
    if have < need:
        return 0
    if gain < 0:
        return (have - need) // -gain + 1
    return None


def behind(hand, lengths, times):
    """Tell the lengths behind so many pressings."""
    check_hand(hand)
    check_lengths(lengths)
    check_times(times)
    return trip_of(hand, lengths, times).here


def course(hand, lengths):
    """Tell (first, round, lefts, rights): by what round the short lengths come again for ever."""
    check_hand(hand)
    check_lengths(lengths)
    trip = trip_of(hand, lengths, None)
    first, _, steps, gain = trip.legs[-1]
    many = len(steps)
    while first > 0:
        ahead = short(lengths_at(trip.legs, first - 1), trip.far)
        if ahead != short(lengths_at(trip.legs, first - 1 + many), trip.far):
            break
        first -= 1
    return first, many, gain[0], gain[1]


def first_cut(hand, lengths):
    """Tell (pressing, key) of the first key that is cut short, or None."""
    check_hand(hand)
    check_lengths(lengths)
    key = cut_in(hand, lengths)
    if key is not None:
        return 0, key
    # Behind a pressing that is not cut short the clip stays as long, or is a last copy's: as
    # long as none is, all pressings from here on do the same.
    ahead = pressed(hand, lengths)
    enough = (HEAVIEST, HEAVIEST, ahead[2])
    gain = gained(enough, pressed(hand, enough))
    left = lower_behind(ahead[0], needed(hand, "left", enough), gain[0])
    right = lower_behind(ahead[1], needed(hand, "right", enough), gain[1])
    many = soonest([left, right])
    if many is None:
        return None
    return many + 1, cut_in(hand, more(ahead, gain, many))
