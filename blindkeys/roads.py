"""Roads: where letters come from behind a play, through however many pressings."""

from blindkeys.courses import MOST_PRESSINGS, more, short, trip_of
from blindkeys.errors import NoPlace, NoPlay, TooMany
from blindkeys.hands import NUMBERS, is_hand
from blindkeys.kinds import is_row, is_within
from blindkeys.tables import check_lengths, source_in, sourced, trace

MOST_PARTS = 12
MOST_HEIRS = 2000


def is_part(thing):
    """Tell whether a thing is a hand and how many times it is pressed."""
    if not is_row(thing) or len(thing) != 2:
        return False
    return is_hand(thing[0]) and is_within(thing[1], 0, MOST_PRESSINGS)


def is_play(thing):
    """Tell whether a thing is a play."""
    return is_row(thing) and len(thing) <= MOST_PARTS and all([is_part(part) for part in thing])


def check_play(thing):
    """Refuse what is no play."""
    if not is_play(thing):
        raise NoPlay("this is no play")


class Road:
    """The way back through one part of a play.

    A letter's spot is told as a source is: its side and how many letters lie between it and
    the cursor, or the clip and how many lie ahead of it there.
    """

    def __init__(self, hand, lengths, times):
        trip = trip_of(hand, lengths, times)
        self.behind = trip.here
        self.far = trip.far
        self.legs = trip.legs
        self.row = sourced(hand)
        self.tables = {}

    def source(self, near, spot):
        """Tell where the letter at a spot behind a pressing by short lengths comes from."""
        if near not in self.tables:
            self.tables[near] = trace(self.row, near)
        return source_in(self.tables[near], near, spot)

    def back_by(self, leg, gone, many, spot):
        """Go so many pressings back, from where so many of a leg are gone, or to what typed it."""
        start = leg[0]
        steps = leg[2]
        for number in range(gone - 1, gone - many - 1, -1):
            spot = self.source(short(steps[number % len(steps)], self.far), spot)
            if spot[0] == "typed":
                return "typed", start + number, spot[1], spot[2]
        return spot

    def untouched(self, leg, rounds, spot):
        """Tell how many rounds, back from the last one of so many, leave a letter where it lies."""
        if spot[0] == "clip":
            return 0
        number = NUMBERS[spot[0]]
        side = [step[number] for step in leg[2]]
        gain = leg[3][number]
        # Counted from the side's far end a letter keeps its number for as long as it is not
        # touched. By a round those are not touched that never lie within the reach.
        high = side[0] + gain * rounds - 1 - spot[1]
        safe = min(side) - self.far[number]
        if high >= safe + gain * (rounds - 1):
            return 0
        if gain <= 0:
            return rounds
        return rounds - 1 - max((high - safe) // gain, -1)

    def back(self, leg, spot):
        """Tell the spot ahead of a leg of what lies at a spot behind it, or what typed it there."""
        many = leg[1]
        steps = leg[2]
        rounds, rest = divmod(many, len(steps))
        spot = self.back_by(leg, many, rest, spot)
        seen = {}
        while rounds > 0 and spot[0] != "typed":
            still = self.untouched(leg, rounds, spot)
            if still > 0:
                spot = (spot[0], spot[1] - leg[3][NUMBERS[spot[0]]] * still)
                rounds -= still
            elif spot in seen:
                # Each round does the same, so that from here on back the letter goes in a ring.
                rounds = rounds % (seen[spot] - rounds)
                seen = {}
            else:
                seen[spot] = rounds
                spot = self.back_by(leg, rounds * len(steps), len(steps), spot)
                rounds -= 1
        return spot

    def through(self, spot):
        """Tell the spot ahead of the part of what lies at a spot behind it, or what typed it there."""
        for leg in reversed(self.legs):
            spot = self.back(leg, spot)
            if spot[0] == "typed":
                return spot
        return spot


def spot_of(lengths, place):
    """Tell at which spot the letter at a place is."""
    if place < lengths[0]:
        return "left", lengths[0] - 1 - place
    return "right", place - lengths[0]


def first_of(lengths, spot):
    """Tell what a letter of the first text or of the first clip is called."""
    side, deep = spot
    if side == "clip":
        return spot
    if side == "left":
        return "first", lengths[0] - 1 - deep
    return "first", lengths[0] + deep


class Journey:
    """A play from lengths on: where each letter behind it comes from."""

    def __init__(self, play, lengths):
        self.parts = play
        self.ahead = lengths
        self.there = lengths
        self.roads = []
        for hand, times in play:
            road = Road(hand, self.there, times)
            self.roads.append(road)
            self.there = road.behind
        self.size = self.there[0] + self.there[1]

    def origin_at(self, spot):
        """Tell the origin of what lies at a spot behind the play."""
        for part, road in reversed(list(enumerate(self.roads))):
            spot = road.through(spot)
            if spot[0] == "typed":
                return "typed", part, spot[1], spot[2], spot[3]
        return first_of(self.ahead, spot)

    def origin_of(self, place):
        """Tell the origin of the letter at a place behind the play."""
        return self.origin_at(spot_of(self.there, place))

    def typed_letter(self, mark):
        """Tell the letter that was typed, by its origin."""
        part, _, key, at = mark[1:]
        return self.parts[part][0][key][1][at]


def check_place(thing, lengths):
    """Refuse what is no place of a text by its lengths."""
    if not is_within(thing, 0, lengths[0] + lengths[1] - 1):
        raise NoPlace("this is no place there")


def after(play, lengths):
    """Tell the lengths behind a play."""
    check_play(play)
    check_lengths(lengths)
    for hand, times in play:
        lengths = trip_of(hand, lengths, times).here
    return tuple(lengths)


def journey_of(play, lengths):
    """Tell the journey of a play from lengths on, and refuse what is none of these."""
    check_play(play)
    check_lengths(lengths)
    return Journey(play, lengths)


def origin(play, lengths, place):
    """Tell where the letter at a place behind a play comes from."""
    journey = journey_of(play, lengths)
    check_place(place, journey.there)
    return journey.origin_of(place)


def clip_origins(play, lengths):
    """Tell where the clip's letters behind a play come from."""
    journey = journey_of(play, lengths)
    return [journey.origin_at(("clip", deep)) for deep in range(journey.there[2])]


def heirs(play, lengths, place):
    """Tell the places behind a play of all letters that come from a first place."""
    journey = journey_of(play, lengths)
    check_place(place, journey.ahead)
    if journey.size > MOST_HEIRS:
        raise TooMany(journey.size)
    return [now for now in range(journey.size) if journey.origin_of(now) == ("first", place)]
