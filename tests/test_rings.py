import inspect
import math
import unittest

from blindkeys import rings as module
from blindkeys.errors import NoHand, NoNumber, NoRings
from blindkeys.hands import is_hand
from blindkeys.rings import longest_round, printer, prints, rings, round_of_prints
from marks import behind_play, by_sources
from things import (
    NEARLY_HANDS, PRINT, TURN, anything, as_lists, as_tuples, frozen, light_hand, seeded, some_hand,
    whole_bad,
)

# How many letters surely are far from all ends.
MANY = 70
# All rows of one to three lengths that are together at most nine.
ROWS = [[one] for one in range(1, 10)]
ROWS += [[one, two] for one in range(1, 9) for two in range(1, 10 - one)]
ROWS += [[one, two, three] for one in range(1, 8) for two in range(1, 9 - one) for three in range(1, 10 - one - two)]
# Three letters right of the cursor and the clip are one ring of four.
WITH_CLIP = [("right", 3), ("paste",), ("left", 4), ("cut", 1)]


def held_by(hand):
    held = 0
    for key in hand:
        if key[0] in ("copy", "cut"):
            held = key[1]
    return held


def pressed(hand, lengths):
    told = by_sources(lengths)
    told.press(hand)
    return told


def depths(hand):
    """Both depths, found by trying."""
    held = held_by(hand)
    left = min(many for many in range(MANY) if not pressed(hand, (many, MANY, held)).cuts)
    right = min(many for many in range(MANY) if not pressed(hand, (MANY, many, held)).cuts)
    return left, right, held


def rings_of(hand):
    """All rings of a hand, as rows of sources, each told once."""
    near = depths(hand)
    rows = dict(zip(("left", "right", "clip"), pressed(hand, (near[0] + MANY, near[1] + MANY, near[2])).rows()))
    sides = dict(zip(("left", "right", "clip"), near))
    found = []
    for side, many in sides.items():
        for deep in range(many):
            row = [(side, deep)]
            while row[-1] is not None:
                source = rows[row[-1][0]][row[-1][1]]
                if source in row:
                    if source == row[0] and min(row) == row[0]:
                        found.append(row)
                    break
                inside = source[0] != "typed" and source[1] < sides[source[0]]
                row.append(source if inside else None)
    return found


class Rings(unittest.TestCase):
    def test_ordinary_hands(self):
        for hand, due in (
            ([], []), ([("write", "abc")], []), ([("paste",)], []), ([("right", 1)], []), ([("left", 1)], []),
            ([("right", 1), ("left", 1)], [1]), ([("right", 3), ("left", 3)], [1, 1, 1]),
            ([("left", 2), ("right", 2)], [1, 1]), ([("copy", 2)], [1, 1]), ([("cut", 1), ("paste",)], []),
            ([("cut", 1), ("paste",), ("left", 1)], [1]), ([("left", 1), ("cut", 1), ("left", 1), ("paste",)], [1]),
            ([("rub", 5)], []), ([("strike", 5)], []), ([("left", 1), ("cut", 1), ("right", 1), ("paste",)], [1]),
            ([("left", 1), ("cut", 1), ("right", 1), ("paste",), ("left", 1)], [2]),
            ([("cut", 2), ("right", 1), ("paste",), ("left", 3)], [3]),
            ([("cut", 2), ("right", 2), ("paste",), ("left", 4)], [2, 2]),
            (WITH_CLIP, [4]),
        ):
            self.assertEqual(rings(hand), due, hand)

    def test_hands_that_turn_and_print(self):
        for many in TURN:
            self.assertEqual(rings(TURN[many]), [many])
            self.assertEqual(rings(PRINT[many]), [many])
        for row in ROWS:
            self.assertEqual(rings(printer(row)), sorted(row), row)

    def test_a_clip_that_a_copy_leaves(self):
        # What is copied again at each pressing is kept by its place, not by the clip.
        self.assertEqual(rings([("copy", 3), ("right", 1), ("write", "x"), ("left", 2)]), [1])
        self.assertEqual(rings([("copy", 1), ("right", 1), ("strike", 1), ("paste",), ("left", 2)]), [1])
        self.assertEqual(rings([("copy", 1), ("write", "x"), ("strike", 1), ("left", 1)]), [])
        # A paste ahead of the copy takes the clip of the pressing before.
        self.assertEqual(rings([("paste",), ("copy", 1), ("strike", 1), ("left", 1)]), [2])
        self.assertEqual(rings([("paste",), ("strike", 1), ("copy", 1), ("left", 1)]), [1])

    def test_a_last_copy_that_is_longer(self):
        self.assertEqual(rings([("cut", 1), ("paste",), ("left", 1), ("copy", 4)]), [1, 1, 1, 1])
        hand = [("copy", 5), ("paste",), ("rub", 5), ("copy", 2)]
        self.assertEqual(depths(hand), (0, 5, 2))
        self.assertEqual(rings(hand), [1] * 5)

    def test_depths_hang_on_the_clip(self):
        # The pasted letters are enough, so that no letter left of the cursor is needed.
        self.assertEqual(rings([("paste",), ("left", 2), ("right", 2), ("rub", 2), ("copy", 2)]), [1, 1])
        self.assertEqual(rings([("paste",), ("left", 3), ("right", 3), ("rub", 2), ("copy", 2)]), [1, 1, 1])

    def test_all_hands(self):
        chance = seeded(71)
        found = []
        for number in range(1500):
            hand = light_hand(chance, 24, 12, 5) if number % 2 else some_hand(chance, 12, 5)
            if number % 3 == 0:
                hand = some_hand(chance, 2, 2) + chance.choice([*TURN.values(), WITH_CLIP]) + hand[:3]
            due = sorted(len(row) for row in rings_of(hand))
            self.assertEqual(rings(hand), due, hand)
            found += due
        self.assertGreater(found.count(2), 20)
        self.assertGreater(len([many for many in found if many > 2]), 20)


class Prints(unittest.TestCase):
    def test_ordinary_hands(self):
        for hand, due in (
            ([], []), ([("paste",)], []), ([("rub", 1)], []), ([("left", 1)], []), ([("copy", 1)], []),
            ([("write", "abc")], [("typed", 0, at) for at in range(3)]),
            ([("right", 2)], [("first", "right")] * 2),
            ([("write", "a"), ("right", 1)], [("typed", 0, 0), ("first", "right")]),
            ([("strike", 1), ("right", 1), ("write", "ab")],
             [("first", "right"), ("typed", 2, 0), ("typed", 2, 1)]),
            ([("cut", 1), ("paste",)], [("first", "right")]),
            ([("copy", 1), ("paste",)], [("ring", 1)]),
            ([("copy", 2), ("paste",)], [("ring", 1)] * 2),
            ([("copy", 1), ("paste",), ("paste",), ("write", "q")], [("ring", 1), ("ring", 1), ("typed", 3, 0)]),
            ([("write", "ab"), ("left", 1)], [("typed", 0, 0)]),
            ([("write", "a"), ("rub", 1)], []), ([("write", "ab"), ("rub", 1)], [("typed", 0, 0)]),
            ([("rub", 1), ("write", "ab")], [("typed", 1, 0)]),
            ([("write", "abc"), ("left", 2), ("rub", 1)], []),
        ):
            self.assertEqual(prints(hand), due, hand)

    def test_letters_that_are_typed_and_moved_before_they_are_left(self):
        # A word is put right of the cursor, and one of its letters is carried over later.
        self.assertEqual(prints([("write", "ab"), ("left", 1)]), [("typed", 0, 0)])
        self.assertEqual(prints([("write", "abc"), ("left", 3), ("right", 1)]), [("typed", 0, 0)])
        self.assertEqual(prints([("write", "ab"), ("left", 2), ("right", 2)]), [("typed", 0, 0), ("typed", 0, 1)])
        self.assertEqual(prints([("right", 3), ("write", "a"), ("left", 3)]), [("typed", 1, 0)])
        self.assertEqual(prints([("right", 3), ("write", "a"), ("left", 2)]), [("first", "right"), ("typed", 1, 0)])
        self.assertEqual(prints([("copy", 3), ("right", 1), ("paste",), ("strike", 3)]), [("first", "right")] * 4)
        # The clip holds what was typed at the pressing before.
        self.assertEqual(prints([("paste",), ("write", "xy"), ("left", 2), ("cut", 2)]),
                         [("typed", 1, 0), ("typed", 1, 1)])

    def test_kept_rings_beside_what_is_typed(self):
        for many in PRINT:
            self.assertEqual(prints(PRINT[many]), [("ring", many)])
            self.assertEqual(prints(TURN[many]), [])
            self.assertEqual(prints([("write", "u")] + PRINT[many] + [("write", "vw")]),
                             [("typed", 0, 0), ("ring", many), ("typed", 7, 0), ("typed", 7, 1)])
            self.assertEqual(prints(TURN[many] + [("write", "z")]), [("typed", 4, 0)])
        self.assertEqual(prints(WITH_CLIP), [])
        self.assertEqual(prints([("paste",)] + WITH_CLIP), [("ring", 4)])

    def test_rings_left_of_the_cursor(self):
        # The last letter stays nearest to the cursor, and a copy of it is left further left.
        hand = [("left", 1), ("copy", 1), ("paste",), ("right", 1)]
        self.assertEqual(rings(hand), [1])
        self.assertEqual(prints(hand), [("ring", 1)])
        # Two letters take turns at being nearest.
        hand = [("left", 2), ("copy", 1), ("paste",), ("cut", 1), ("right", 1), ("paste",)]
        self.assertEqual(rings(hand), [2])
        self.assertEqual(prints(hand), [("ring", 2)])

    def test_all_hands_against_pressing(self):
        chance = seeded(72)
        seen = []
        for number in range(400):
            hand = light_hand(chance, 20, 9, 4) if number % 2 else some_hand(chance, 8, 3)
            if number % 3 == 0:
                hand = some_hand(chance, 2, 2) + chance.choice([*PRINT.values(), WITH_CLIP]) + hand[:2]
            if number % 5 == 0:
                hand = [("paste",)] + hand
            seen += self.compare(hand)
        for hand in (*PRINT.values(), *map(printer, ROWS[::5]), [("paste",)] + WITH_CLIP):
            self.compare(hand)
        for kind in ("typed", "first"):
            self.assertGreater([thing[0] for thing in seen].count(kind), 50)
        self.assertGreater(len([thing for thing in seen if thing[0] == "ring" and thing[1] > 1]), 10)

    def compare(self, hand):
        """See what stands there behind many pressings where the prints are due."""
        left, _, held = depths(hand)
        g = pressed(hand, (left, MANY, held)).cursor - left
        told = prints(hand)
        self.assertEqual(len(told), max(0, g), hand)
        if g < 1:
            return []
        times = 120
        there = behind_play([(hand, times)], (left, 61 * times, held))
        self.assertEqual(there.cuts, [])
        for at, thing in enumerate(told):
            places = [there.cursor - left - (times - number) * g + at for number in range(times)]
            row = [there.words[place] for place in places]
            self.see(hand, thing, row)
        return told

    def see(self, hand, thing, row):
        late = row[len(row) // 2:]
        if thing[0] == "typed":
            self.assertEqual({mark[:2] + mark[3:] for mark in late}, {("typed", 0, *thing[1:])}, hand)
        elif thing[0] == "ring":
            many = thing[1]
            self.assertEqual(late[many:], late[:-many], hand)
            self.assertEqual(len(set(late)), many, hand)
        else:
            self.assertEqual(thing, ("first", "right"), hand)
            self.assertEqual({mark[0] for mark in late}, {"first"}, hand)
            self.assertGreater(len(set(late)), len(late) // 3, hand)


class Rounds(unittest.TestCase):
    def test_ordinary_hands(self):
        for hand, due in (
            ([], None), ([("rub", 1)], None), ([("copy", 1)], None), (TURN[5], None), (WITH_CLIP, None),
            ([("write", "abc")], 1), ([("right", 1)], None), ([("write", "a"), ("right", 1)], None),
            ([("copy", 1), ("paste",), ("right", 1)], None), ([("copy", 1), ("paste",)], 1),
            ([("paste",)] + WITH_CLIP, 4), ([("write", "a"), *PRINT[9], ("write", "b")], 9),
        ):
            self.assertEqual(round_of_prints(hand), due, hand)

    def test_printers(self):
        for row in ROWS:
            self.assertEqual(round_of_prints(printer(row)), math.lcm(*row), row)

    def test_rings_that_are_not_printed_do_not_count(self):
        turned = [("right", 3), *TURN[5], ("left", 3)]
        self.assertEqual(rings(PRINT[3] + turned), [3, 5])
        self.assertEqual(prints(PRINT[3] + turned), [("ring", 3)])
        self.assertEqual(round_of_prints(PRINT[3] + turned), 3)
        self.assertEqual(round_of_prints(TURN[5] + [("write", "z")]), 1)


class Printer(unittest.TestCase):
    def test_every_row(self):
        self.assertEqual(len(ROWS), 9 + 36 + 84)
        for row in ROWS:
            for form in (row, tuple(row)):
                hand = printer(form)
                self.assertIs(type(hand), list)
                self.assertEqual({type(key) for key in hand}, {tuple})
                self.assertIs(is_hand(hand), True)
                self.assertEqual(prints(hand), [("ring", many) for many in row])

    def test_what_is_no_lengths_of_rings(self):
        for number, thing in enumerate([
            [], (), [0], [10], [-1], [1, 0], [0, 1], [1, -1], [5, 5], [1, 1, 8], [1, 1, 1, 1], [2, 2, 2, 2, 1],
            [9, 1], [1, 9], [3, 3, 4], [1, 2, -1], [10 ** 6000], [-10 ** 6000], 3, "3", "123", {1: 2}, {1, 2},
            {1: 1}, range(1, 3), b"\x01", [[1]], [(1,)], [1, [2]], [True], [1, True], [1, None], [2.0], ["1"],
        ] + [[thing] for thing in whole_bad()] + [[2, thing, 2] for thing in whole_bad()] + anything()):
            with self.assertRaises(NoRings, msg=number):
                printer(thing)


class Longest(unittest.TestCase):
    def test_every_number(self):
        self.assertEqual([longest_round(kept) for kept in range(12)], [1, 1, 2, 3, 4, 6, 6, 12, 15, 20, 30, 30])
        told = {0: {1}}
        for kept in range(1, 61):
            # All rounds of rings of so many letters together: one ring more than ones of fewer.
            told[kept] = {math.lcm(many, one) for one in range(1, kept + 1) for many in told[kept - one]}
            self.assertEqual(longest_round(kept), max(told[kept]), kept)

    def test_what_is_no_such_number(self):
        for thing in (-1, 61, 10 ** 30, -10 ** 6000, 10 ** 6000, *whole_bad()):
            with self.assertRaises(NoNumber):
                longest_round(thing)
        self.assertEqual(longest_round(60), 1021020)


class Asked(unittest.TestCase):
    def test_what_is_no_hand(self):
        for ask in (rings, prints, round_of_prints):
            for number, thing in enumerate(NEARLY_HANDS + anything()):
                with self.assertRaises(NoHand, msg=number):
                    ask(thing)

    def test_lists_and_tuples_are_told_alike_and_nothing_is_changed(self):
        chance = seeded(73)
        for hand in [printer([2, 3, 4]), *[some_hand(chance) for _ in range(30)]]:
            for ask in (rings, prints, round_of_prints):
                told = []
                for form in (lambda thing: thing, as_lists, as_tuples):
                    handed = form(hand)
                    kept = frozen(handed)
                    told += [ask(handed), ask(handed)]
                    self.assertEqual(handed, kept)
                self.assertEqual(told, [told[0]] * 6)
        handed = [2, 3]
        printer(handed)
        self.assertEqual(handed, [2, 3])

    def test_the_kinds_of_what_is_told(self):
        hand = as_lists([("write", "x"), *PRINT[3]])
        self.assertIs(type(rings(hand)), list)
        self.assertIs(type(prints(hand)), list)
        self.assertEqual({type(thing) for thing in prints(hand)}, {tuple})
        self.assertEqual({type(thing) for thing in prints([("right", 1)])}, {tuple})

    def test_a_told_list_is_the_askers_own(self):
        hand = printer([2, 3, 4])
        for ask in (rings, prints, round_of_prints, lambda hand: printer([2, 3, 4]), lambda hand: prints([]),
                    lambda hand: rings([])):
            kept = frozen(ask(hand))
            if type(kept) is list:
                ask(hand).append("x")
                told = ask(hand)
                told.clear()
            self.assertEqual(ask(hand), kept)

    def test_arguments_have_their_names(self):
        for name, due in {
            "rings": "(hand)", "prints": "(hand)", "round_of_prints": "(hand)", "printer": "(lengths)",
            "longest_round": "(kept)",
        }.items():
            asked = getattr(module, name)
            self.assertEqual(str(inspect.signature(asked)), due)
            self.assertEqual(asked.__module__, "blindkeys.rings")


if __name__ == "__main__":
    unittest.main()
