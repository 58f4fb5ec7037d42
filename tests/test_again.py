import inspect
import math
import unittest

from blindkeys import again
from blindkeys.again import comes_again
from blindkeys.errors import NoHand, NoSheet
from blindkeys.rings import printer
from marks import plain_press
from test_courses import FALSE_ROUNDS, SWINGS
from things import (
    NEARLY_HANDS, TURN, anything, as_lists, as_tuples, frozen, light_hand, seeded, some_hand,
    whole_bad,
)

LETTERS = "abcdefghijklmnopqrstuvwxyz"
# Rings of 4, 5, 7 and 9 letters, one behind the other.
FOUR = [
    ("cut", 1), ("right", 3), ("paste",), ("cut", 1), ("right", 4), ("paste",),
    ("cut", 1), ("right", 6), ("paste",), ("cut", 1), ("right", 8), ("paste",), ("left", 25),
]


def by_pressing(sheet, hand, most, longest=3000):
    """What is due, found by pressing; None where the text grows too long, "far" behind too many."""
    seen = {}
    for number in range(most):
        if sheet in seen:
            return seen[sheet], number - seen[sheet]
        if len(sheet[0]) > longest:
            return None
        seen[sheet] = number
        sheet = plain_press(sheet, hand)
    return "far"


def some_sheet(chance, sizes=(0, 1, 3, 10, 30)):
    sign = chance.choice(("a", "ab", "abc", LETTERS))
    words = "".join(chance.choice(sign) for _ in range(chance.choice(sizes)))
    clip = "".join(chance.choice(sign) for _ in range(chance.choice((0, 1, 3, 10))))
    return words, chance.choice((0, len(words), chance.randint(0, len(words)))), clip


class Again(unittest.TestCase):
    def compare(self, sheet, hand, most=900):
        due = by_pressing(sheet, hand, most)
        told = comes_again(sheet, hand)
        # What is brought behind so many pressings is brought for ever.
        self.assertEqual(told, None if due == "far" else due, (sheet, hand))
        return told

    def test_ordinary_hands(self):
        for sheet, hand, due in (
            (("abc", 1, "z"), [], (0, 1)), (("", 0, ""), [], (0, 1)), (("abc", 2, "z"), [("left", 1)], (2, 1)),
            (("abc", 3, "z"), [("right", 1), ("left", 1)], (1, 1)), (("abc", 2, "z"), [("copy", 1)], (1, 1)),
            (("abc", 1, "z"), [("write", "a")], None), (("abc", 1, ""), [("paste",)], (0, 1)),
            (("abc", 1, "z"), [("paste",)], None), (("abc", 1, "z"), [("rub", 1)], (1, 1)),
            (("abc", 1, "z"), [("strike", 1)], (2, 1)), (("abc", 1, "z"), [("cut", 1)], (3, 1)),
            (("abc", 0, ""), TURN[3], (1, 3)), (("abcb", 0, ""), TURN[3], (1, 3)), (("aaa", 0, "a"), TURN[3], (0, 1)),
            (("abab", 0, "a"), TURN[2], (1, 2)), (("abab", 0, "b"), TURN[2], (0, 2)),
            (("abcd", 4, ""), [("write", "x"), ("rub", 1)], (0, 1)),
            (("abcd", 4, ""), [("rub", 1), ("write", "x")], (1, 1)),
            (("abcx", 4, ""), [("rub", 1), ("write", "x")], (0, 1)),
        ):
            self.assertEqual(comes_again(sheet, hand), due, (sheet, hand))
            self.compare(sheet, hand)

    def test_the_cursor_and_the_clip_count(self):
        self.assertEqual(comes_again(("aaaa", 4, ""), [("left", 1)]), (4, 1))
        self.assertEqual(comes_again(("aaaa", 0, "b"), [("copy", 1)]), (1, 1))
        self.assertEqual(comes_again(("aaaa", 0, "a"), [("copy", 1)]), (0, 1))
        self.assertEqual(comes_again(("aaaa", 0, "a"), [("copy", 2)]), (1, 1))
        self.assertEqual(comes_again(("aaaa", 0, "a"), [("right", 1), ("copy", 1)]), (4, 1))

    def test_like_letters_come_sooner(self):
        for words, due in (("abcdef", 6), ("abcabc", 3), ("ababab", 2), ("aaaaaa", 1), ("aabaab", 3), ("aaaaab", 6)):
            hand = [("cut", 1), ("right", 5), ("paste",), ("left", 6)]
            self.assertEqual(comes_again((words, 0, words[-1]), hand), (0, due))
            self.assertEqual(comes_again(("z" + words + "zzz", 1, words[-1]), hand), (0, due))

    def test_all_hands(self):
        chance = seeded(81)
        told = []
        for number in range(1200):
            hand = light_hand(chance, 12) if number % 2 else some_hand(chance)
            if number % 3 == 0:
                hand = some_hand(chance, 2, 2) + TURN[chance.choice((2, 3, 5))] + hand[:2]
            told.append(self.compare(some_sheet(chance), hand))
        self.assertGreater(told.count(None), 100)
        told = [thing for thing in told if thing]
        self.assertGreater(len([thing for thing in told if thing[1] > 1]), 30)
        self.assertGreater(len([thing for thing in told if thing[0] > 1]), 100)
        self.assertGreater(len([thing for thing in told if thing[0] == 0]), 50)

    def test_lengths_that_swing(self):
        chance = seeded(82)
        seen = set()
        for _ in range(40):
            for hand, (left, right, held) in SWINGS + FALSE_ROUNDS:
                sign = chance.choice(("a", "ab", LETTERS))
                row = "".join(chance.choice(sign) for _ in range(left + right + held))
                told = self.compare((row[held:], left, row[:held]), hand)
                seen.add(told)
        # Either pressing of the lengths' round may be the first one that comes again.
        self.assertTrue({told[0] % 2 for told in seen if told and told[1] == 2} == {0, 1})

    def test_sheets_of_three_hundred_letters(self):
        chance = seeded(83)
        for _ in range(30):
            hand = chance.choice((light_hand(chance, 12), TURN[9] + some_hand(chance, 1, 2)))
            self.compare(some_sheet(chance, (300,)), hand, 1500)
        words = (LETTERS * 12)[:300]
        self.assertEqual(comes_again((words, 0, ""), TURN[9]), (1, 9))
        self.assertEqual(comes_again((words, 300, ""), [("left", 1)]), (300, 1))
        self.assertEqual(comes_again((words, 0, "ab"), [("cut", 1)]), (301, 1))
        self.assertEqual(comes_again((words, 0, ""), [("strike", 1), ("write", "x"), ("rub", 1)]), (300, 1))
        # The text grows by far more letters, and then no more.
        self.assertEqual(comes_again((words, 0, ""), [("cut", 2), *[("paste",)] * 30]), (151, 1))
        grown = [("cut", 1), *[("paste",)] * 20, ("copy", 1), ("paste",), ("strike", 1), ("rub", 2)]
        self.assertEqual(comes_again((words, 0, ""), grown), by_pressing((words, 0, ""), grown, 9000, 9000))

    def test_a_sheet_of_no_letters(self):
        hands = ([], [("left", 1)], [("paste",), ("rub", 59)], [("cut", 3)], [("paste",), ("left", 59)], TURN[2])
        for clip in ("", "a", "ab" * 30):
            for hand in hands:
                self.compare(("", 0, clip), hand, 400)

    def test_great_rounds(self):
        words = LETTERS[:25]
        due = by_pressing((words, 0, ""), FOUR, 3000)
        self.assertEqual(due, (1, 1260))
        self.assertEqual(comes_again((words, 0, ""), FOUR), due)
        self.assertEqual(comes_again(("zz" + words + "zz", 2, ""), FOUR), due)
        self.assertEqual(comes_again(("abab" + "abcde" + "abcdabc" + "abcabcabc", 0, ""), FOUR), (1, 2 * 5 * 7 * 3))
        self.assertEqual(comes_again(("a" * 25, 0, "a"), FOUR), (0, 1))

    def test_rings_of_three_kinds_of_letters(self):
        for row in ([2, 3, 4], [1, 3, 5], [4, 5], [2, 7]):
            # Nothing is left of what is printed.
            hand = printer(row) + [("rub", len(row))]
            words = LETTERS[:sum(row)]
            self.assertEqual(comes_again((words, 0, ""), hand), (1, math.lcm(*row)))
            self.assertEqual(comes_again((words, 0, ""), printer(row)), None)

    def test_rounds_against_the_rings_in_which_letters_are_moved(self):
        chance = seeded(84)
        words = (LETTERS * 2)[:40]
        told = []
        for _ in range(400):
            hand = self.shuffler(chance)
            told.append(comes_again((words, 0, ""), hand))
            self.assertEqual(told[-1], self.by_ring(words, hand), hand)
        self.assertGreater(max(told), (1, 1500))

    def shuffler(self, chance):
        """A hand that moves rows of letters about right of the cursor, and comes back."""
        hand, there = [], 0
        while True:
            many, over = chance.randint(1, 5), chance.randint(1, 7)
            if sum(key[1] if len(key) > 1 else 1 for key in hand) + 2 * (many + over) + 1 + there > 60:
                return hand + ([("left", there)] if there else [])
            hand += [("cut", many), ("right", over), ("paste",)]
            there += many + over

    def by_ring(self, words, hand):
        """What is due where letters are only moved: by the rings in which one pressing moves them."""
        ones = [chr(192 + number) for number in range(len(words))]
        held = plain_press(("".join(ones), 0, ""), hand)[2]
        row = plain_press(("".join(ones), 0, held), hand)[0]
        moved = [ones.index(sign) for sign in row]
        many = 1
        for start in range(len(moved)):
            ring, at = [start], moved[start]
            while at != start:
                ring.append(at)
                at = moved[at]
            signs = [words[at] for at in ring]
            turns = [turn for turn in range(1, len(ring) + 1) if signs[turn:] + signs[:turn] == signs]
            many = math.lcm(many, turns[0])
        # The first clip is empty, and no later one.
        return 1, many


class Refused(unittest.TestCase):
    def test_what_is_no_sheet(self):
        for number, thing in enumerate([
            ("ab", 3, ""), ("ab", -1, ""), ("ab", True, ""), ("aB", 1, ""), ("ab", 1, "a b"), ("ab", 1, "a" * 61),
            ("ab", 1), ("ab", 1, "", ""), [("ab", 1)], ([("ab", 1)], 1, ""),
            *[("ab", thing, "") for thing in whole_bad()],
        ] + anything()):
            with self.assertRaises(NoSheet, msg=number):
                comes_again(thing, [("left", 1)])

    def test_three_hundred_letters_and_one_more(self):
        self.assertEqual(comes_again(("a" * 300, 0, "a" * 60), [("left", 1)]), (0, 1))
        for many in (301, 302, 4000):
            for hand in ([("left", 1)], [], None):
                with self.assertRaises(NoSheet):
                    comes_again(("a" * many, 0, ""), hand)

    def test_what_is_no_hand(self):
        for number, thing in enumerate(NEARLY_HANDS + anything()):
            with self.assertRaises(NoHand, msg=number):
                comes_again(("abc", 1, "z"), thing)

    def test_which_goes_first(self):
        with self.assertRaises(NoSheet):
            comes_again(None, None)
        with self.assertRaises(NoHand):
            comes_again(("", 0, ""), None)

    def test_arguments_have_their_names(self):
        self.assertEqual(str(inspect.signature(comes_again)), "(sheet, hand)")
        self.assertEqual(again.comes_again.__module__, "blindkeys.again")


class Unchanged(unittest.TestCase):
    def test_lists_and_tuples_are_told_alike_and_nothing_is_changed(self):
        chance = seeded(85)
        for _ in range(40):
            sheet, hand = some_sheet(chance), TURN[3] + some_hand(chance, 2)
            told = []
            for form in (lambda thing: thing, as_lists, as_tuples):
                handed = form(sheet), form(hand)
                kept = frozen(handed)
                told += [comes_again(*handed), comes_again(*handed)]
                self.assertEqual(handed, kept)
            self.assertEqual(told, [told[0]] * 6)
            self.assertIn(type(told[0]), (tuple, type(None)))


if __name__ == "__main__":
    unittest.main()
