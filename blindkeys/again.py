"""Coming again: when text, cursor and clip are what they were, letter by letter."""

from math import lcm

from blindkeys.courses import course, lengths_at
from blindkeys.errors import NoSheet
from blindkeys.hands import check_hand, check_sheet
from blindkeys.roads import Road
from blindkeys.stands import Scene, lengths_of
from blindkeys.tables import row_of

LONGEST_SHEET = 300


def check_short(sheet):
    """Refuse what is no sheet, or a longer one."""
    check_sheet(sheet)
    if len(sheet[0]) > LONGEST_SHEET:
        raise NoSheet("this sheet has more than 300 letters")


def least_turn(ring):
    """Tell by how many letters a ring of letters is least turned to look the same again."""
    for many in range(1, len(ring)):
        if ring[many:] + ring[:many] == ring:
            return many
    return len(ring)


class Rounds:
    """A sheet that comes again by lengths, from a pressing on: its letters round by round.

    A round is so many pressings that the lengths come again behind them. A spot is near where
    some pressing of a round may touch it: all other letters stay where they are for ever.
    """

    def __init__(self, stand, hand, start, many):
        scene = Scene(stand, [(hand, start)])
        self.hand = hand
        self.there = scene.there
        self.road = Road(hand, scene.there, many)
        self.steps = [lengths_at(self.road.legs, when) for when in range(many)]
        self.signs = {}
        self.sources = {}
        for spot in self.spots():
            self.signs[spot] = scene.letter_at(spot)
            self.sources[spot] = self.road.through(spot)

    def touched(self, side):
        """Tell how many letters of a side some pressing of a round may touch."""
        low = min([step[side] for step in self.steps])
        return self.there[side] - max(0, low - self.road.far[side])

    def spots(self):
        """Tell all near spots."""
        return row_of("left", self.touched(0)) + row_of("right", self.touched(1)) + row_of("clip", self.there[2])

    def row_at(self, spot):
        """Tell (row, many): what is at a spot round by round, and how many of these last for ever."""
        numbers = {}
        row = []
        while spot[0] != "typed" and spot not in numbers:
            numbers[spot] = len(row)
            row.append(self.signs[spot])
            spot = self.sources[spot]
        if spot[0] != "typed":
            return row, len(row) - numbers[spot]
        key, at = spot[2:]
        row.append(self.hand[key][1][at])
        return row, 1

    def again_at(self, spot):
        """Tell (first, many): behind how many rounds a spot's letters come again, and by how many."""
        row, ring = self.row_at(spot)
        first = len(row) - ring
        many = least_turn(row[first:])
        while first > 0 and row[first - 1] == row[first - 1 + many]:
            first -= 1
        return first, many

    def again(self):
        """Tell (first, many): behind how many rounds all letters come again, and by how many."""
        first = 0
        many = 1
        for spot in self.spots():
            later, turn = self.again_at(spot)
            first = max(first, later)
            many = lcm(many, turn)
        return first, many


def comes_again(sheet, hand):
    """Tell (first, round): when a sheet comes again, and by how many pressings, or None."""
    check_short(sheet)
    check_hand(hand)
    words, cursor, clip = sheet
    stand = ([(words, 1)], cursor, clip)
    start, many, lefts, rights = course(hand, lengths_of(stand))
    if lefts != 0 or rights != 0:
        return None
    # From any pressing of the lengths' round on the sheet may be the first that comes again.
    firsts = []
    rounds = 1
    for later in range(start, start + many):
        first, rounds = Rounds(stand, hand, later, many).again()
        firsts.append(later + first * many)
    return min(firsts), rounds * many
