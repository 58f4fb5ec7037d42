import inspect
import unittest

from blindkeys import hands
from blindkeys.errors import NoHand, NoSheet, NoTimes
from blindkeys.hands import is_hand, is_sheet, press, reaches, weight
from things import (
    KINDS, NEARLY_HANDS, anything, as_lists, as_tuples, frozen, seeded, some_hand, whole_bad,
)

NEARLY_SHEETS = [
    ("abc", -1, ""), ("abc", 4, ""), ("", 1, ""), ("abc", True, ""), ("abc", None, ""),
    ("abc", "1", ""), ("abc", 1.0, ""), ("abc", 10 ** 6000, ""), ("abc", 1, "a" * 61),
    ("abc", 1, "A"), ("abc", 1, "a b"), ("abc", 1, None), ("abc", 1, ["a"]), ("abc", 1, b"a"),
    ("ABC", 1, ""), ("a c", 1, ""), ("abc\n", 1, ""), ("\nabc", 1, ""), ("ab\u00e4c", 1, ""),
    ("a1c", 1, ""), (["a"], 1, ""), (b"abc", 1, ""), (None, 0, ""), ("abc", 1), ("abc", 1, "", ""),
    (), [], {"abc": 1, "b": 2, "c": 3}, "abc", "a0b", ([("a", 3)], 1, ""), (("abc", 1, ""),),
    ("", "", 0), (0, "", ""), {"abc", 1, ""},
]


def ahead_of(words, cursor, clip):
    return {"words": words, "cursor": cursor, "clip": clip, "cuts": []}


def step(state, key):
    """Do a key letter by letter, straight from the document."""
    kind = key[0]
    if kind in ("write", "paste"):
        for sign in (key[1] if kind == "write" else state["clip"]):
            at = state["cursor"]
            state["words"] = state["words"][:at] + sign + state["words"][at:]
            state["cursor"] = at + 1
        return
    taken = ""
    for _ in range(key[1]):
        at = state["cursor"]
        if kind in ("left", "rub") and at == 0:
            state["cuts"].append("left")
        elif kind in ("left", "rub"):
            state["cursor"] = at - 1
            if kind == "rub":
                state["words"] = state["words"][:at - 1] + state["words"][at:]
        elif at + (len(taken) if kind == "copy" else 0) == len(state["words"]):
            state["cuts"].append("right")
        elif kind == "right":
            state["cursor"] = at + 1
        elif kind == "copy":
            taken += state["words"][at + len(taken)]
        else:
            taken += state["words"][at]
            state["words"] = state["words"][:at] + state["words"][at + 1:]
    if kind in ("copy", "cut"):
        state["clip"] = taken


def key_by_key(sheet, hand, times):
    state = ahead_of(*sheet)
    for _ in range(times):
        for key in hand:
            step(state, key)
    return state["words"], state["cursor"], state["clip"]


def cuts(hand, left, right, held):
    state = ahead_of("a" * (left + right), left, "b" * held)
    for key in hand:
        step(state, key)
    return state["cuts"]


def some_sheet(chance):
    words = "".join(chance.choice("abcd") for _ in range(chance.randint(0, 12)))
    clip = "".join(chance.choice("uvw") for _ in range(chance.randint(0, 4)))
    return words, chance.randint(0, len(words)), clip


class Hands(unittest.TestCase):
    def test_ordinary_hands(self):
        for hand in ([], (), [("paste",)], [("write", "abc")], [("left", 1), ("cut", 2), ("paste",)],
                     *[[(kind, 60)] for kind in KINDS], [(kind, 10) for kind in KINDS]):
            self.assertIs(is_hand(hand), True)
            self.assertIs(is_hand(as_lists(hand)), True)
            self.assertIs(is_hand(as_tuples(hand)), True)

    def test_words_that_are_called_as_keys(self):
        for word in (*KINDS, "write", "paste"):
            hand = [("write", word), ("copy", 1)]
            self.assertIs(is_hand(hand), True)
            self.assertEqual(weight(hand), len(word) + 1)
            self.assertEqual(press(("ab", 1, ""), hand), ("a" + word + "b", 1 + len(word), "b"))

    def test_sixty_keys_and_one_more(self):
        for key in (("paste",), ("left", 1), ("write", "a")):
            self.assertIs(is_hand([key] * 60), True)
            self.assertIs(is_hand([key] * 61), False)

    def test_weight_of_sixty_and_one_more(self):
        for hand in ([("write", "a" * 60)], [("left", 60)], [("cut", 29), ("write", "ab" * 15), ("paste",)]):
            self.assertIs(is_hand(hand), True)
            self.assertEqual(weight(hand), 60)
            for key in (("paste",), ("rub", 1), ("write", "z")):
                self.assertIs(is_hand(hand + [key]), False)
                self.assertIs(is_hand([key] + hand), False)

    def test_nearly_hands_are_none(self):
        for number, thing in enumerate(NEARLY_HANDS):
            self.assertIs(is_hand(thing), False, number)

    def test_anything_is_answered(self):
        for number, thing in enumerate(anything()):
            self.assertIs(is_hand(thing), False, number)

    def test_what_is_no_hand_is_refused_everywhere(self):
        for ask in (weight, reaches, lambda thing: press(("", 0, ""), thing)):
            for number, thing in enumerate(NEARLY_HANDS + anything()):
                with self.assertRaises(NoHand, msg=number):
                    ask(thing)

    def test_weight(self):
        self.assertEqual(weight([]), 0)
        self.assertEqual(weight([("paste",)] * 3), 3)
        self.assertEqual(weight([("write", "abcde"), ("paste",)]), 6)
        self.assertEqual(weight([(kind, at + 1) for at, kind in enumerate(KINDS)]), 21)

    def test_arguments_have_their_names(self):
        for name, due in {
            "is_hand": "(thing)", "is_sheet": "(thing)", "weight": "(hand)",
            "press": "(sheet, hand, *, times=1)", "reaches": "(hand)",
        }.items():
            asked = getattr(hands, name)
            self.assertEqual(str(inspect.signature(asked)), due)
            self.assertEqual(asked.__module__, "blindkeys.hands")


class Sheets(unittest.TestCase):
    def test_ordinary_sheets(self):
        for sheet in (("", 0, ""), ("abc", 0, ""), ("abc", 3, "xy"), ("a" * 5000, 77, "b")):
            self.assertIs(is_sheet(sheet), True)
            self.assertIs(is_sheet(list(sheet)), True)

    def test_cursor_at_the_end_and_one_beyond(self):
        self.assertIs(is_sheet(("abc", 3, "")), True)
        self.assertIs(is_sheet(("abc", 4, "")), False)
        self.assertIs(is_sheet(("", 0, "")), True)
        self.assertIs(is_sheet(("", 1, "")), False)

    def test_clips_of_sixty_letters_and_one_more(self):
        self.assertIs(is_sheet(("", 0, "a" * 60)), True)
        self.assertIs(is_sheet(("", 0, "a" * 61)), False)

    def test_nearly_sheets_are_none(self):
        for number, thing in enumerate(NEARLY_SHEETS):
            self.assertIs(is_sheet(thing), False, number)

    def test_anything_is_answered(self):
        for number, thing in enumerate(anything()):
            self.assertIs(is_sheet(thing), False, number)

    def test_what_is_no_sheet_is_refused(self):
        for number, thing in enumerate(NEARLY_SHEETS + anything()):
            with self.assertRaises(NoSheet, msg=number):
                press(thing, [])


class Pressed(unittest.TestCase):
    def test_each_key(self):
        sheet = ("abcdef", 3, "xy")
        for key, due in (
            (("left", 2), ("abcdef", 1, "xy")), (("right", 2), ("abcdef", 5, "xy")),
            (("strike", 2), ("abcf", 3, "xy")), (("rub", 2), ("adef", 1, "xy")),
            (("copy", 2), ("abcdef", 3, "de")), (("cut", 2), ("abcf", 3, "de")),
            (("write", "pq"), ("abcpqdef", 5, "xy")), (("paste",), ("abcxydef", 5, "xy")),
        ):
            self.assertEqual(press(sheet, [key]), due, key)

    def test_each_key_just_not_cut_short(self):
        sheet = ("abcdef", 3, "xy")
        for key, due in (
            (("left", 3), ("abcdef", 0, "xy")), (("right", 3), ("abcdef", 6, "xy")),
            (("strike", 3), ("abc", 3, "xy")), (("rub", 3), ("def", 0, "xy")),
            (("copy", 3), ("abcdef", 3, "def")), (("cut", 3), ("abc", 3, "def")),
        ):
            self.assertEqual(press(sheet, [key]), due, key)

    def test_each_key_cut_short(self):
        sheet = ("abcdef", 3, "xy")
        for k in (4, 60):
            for kind, due in (
                ("left", ("abcdef", 0, "xy")), ("right", ("abcdef", 6, "xy")),
                ("strike", ("abc", 3, "xy")), ("rub", ("def", 0, "xy")),
                ("copy", ("abcdef", 3, "def")), ("cut", ("abc", 3, "def")),
            ):
                self.assertEqual(press(sheet, [(kind, k)]), due, kind)

    def test_each_key_where_no_letter_is_left(self):
        for kind in ("left", "rub"):
            self.assertEqual(press(("abc", 0, "xy"), [(kind, 2)]), ("abc", 0, "xy"))
        for kind in ("right", "strike"):
            self.assertEqual(press(("abc", 3, "xy"), [(kind, 2)]), ("abc", 3, "xy"))
        for kind in ("copy", "cut"):
            self.assertEqual(press(("abc", 3, "xy"), [(kind, 2)]), ("abc", 3, ""))

    def test_an_empty_clip_is_pasted_and_a_full_one_stays(self):
        self.assertEqual(press(("ab", 1, ""), [("paste",)]), ("ab", 1, ""))
        self.assertEqual(press(("ab", 1, "xy"), [("paste",)] * 2), ("axyxyb", 5, "xy"))

    def test_key_by_key(self):
        chance = seeded(3)
        for _ in range(400):
            sheet, hand = some_sheet(chance), some_hand(chance)
            for times in (0, 1, 2, 5):
                self.assertEqual(press(sheet, hand, times=times), key_by_key(sheet, hand, times))

    def test_a_pressing_more_is_a_pressing_of_what_is_told(self):
        chance = seeded(4)
        for _ in range(40):
            sheet, hand = some_sheet(chance), some_hand(chance)
            told = press(sheet, hand, times=7)
            self.assertEqual(press(told, hand, times=4), press(sheet, hand, times=11))

    def test_times_left_out_none_and_most(self):
        chance = seeded(5)
        for _ in range(10):
            sheet, hand = some_sheet(chance), some_hand(chance, most_keys=4)
            self.assertEqual(press(sheet, hand), key_by_key(sheet, hand, 1))
            self.assertEqual(press(sheet, hand, times=0), sheet)
            self.assertEqual(press(sheet, hand, times=300), key_by_key(sheet, hand, 300))

    def test_the_longest_sheet(self):
        words, cursor, clip = press(("ab", 1, "c" * 60), [("paste",)] * 60, times=300)
        self.assertEqual(cursor, 1 + 60 * 60 * 300)
        self.assertEqual(words, "a" + "c" * (60 * 60 * 300) + "b")
        self.assertEqual(clip, "c" * 60)
        self.assertIs(is_sheet((words, cursor, clip)), True)

    def test_a_sheet_is_a_tuple(self):
        told = press(["abc", 1, "x"], [["paste"], ["cut", 1]], times=0)
        self.assertEqual(told, ("abc", 1, "x"))
        self.assertIs(type(told), tuple)
        self.assertEqual([type(part) for part in told], [str, int, str])

    def test_times_that_are_none(self):
        for times in (-1, 301, 10 ** 39, -10 ** 39, *whole_bad()):
            with self.assertRaises(NoTimes):
                press(("", 0, ""), [], times=times)

    def test_times_are_handed_by_their_name_alone(self):
        with self.assertRaises(TypeError):
            press(("", 0, ""), [], 1)

    def test_what_is_handed_in_first_is_refused_first(self):
        for refused, ask in (
            (NoSheet, lambda: press(None, None, times=-1)),
            (NoSheet, lambda: press(None, [], times=-1)),
            (NoSheet, lambda: press(times=-1, hand=None, sheet=None)),
            (NoHand, lambda: press(("", 0, ""), None, times=-1)),
            (NoTimes, lambda: press(("", 0, ""), [], times=-1)),
        ):
            with self.assertRaises(refused):
                ask()


class Reaches(unittest.TestCase):
    def test_ordinary_hands(self):
        for hand, due in (
            ([], (0, 0)), ([("paste",), ("write", "abc")], (0, 0)),
            ([("left", 3)], (3, 0)), ([("rub", 3)], (3, 0)), ([("right", 3)], (0, 3)),
            ([("strike", 3)], (0, 3)), ([("copy", 3)], (0, 3)), ([("cut", 3)], (0, 3)),
            ([("left", 2), ("rub", 3)], (5, 0)), ([("write", "ab"), ("rub", 3)], (1, 0)),
            ([("right", 2), ("left", 2)], (2, 2)), ([("left", 2), ("right", 2)], (2, 2)),
            ([("copy", 2), ("copy", 5), ("strike", 1)], (0, 5)),
            ([("cut", 2), ("paste",), ("left", 2), ("copy", 2)], (2, 2)),
            ([("left", 60)], (60, 0)), ([("copy", 60)], (0, 60)),
            ([("left", 3), ("cut", 3), ("paste",), ("rub", 3)], (3, 3)),
        ):
            self.assertEqual(reaches(hand), due, hand)
            self.assertEqual(reaches(as_lists(hand)), due)
            self.assertIs(type(reaches(as_lists(hand))), tuple)

    def test_at_above_and_one_below(self):
        chance = seeded(6)
        for _ in range(120):
            hand = some_hand(chance, most_keys=5, most=3)
            left, right = reaches(hand)
            for more in (0, 1, 2, 7):
                for other in range(9):
                    for held in (0, 1, 3):
                        self.assertNotIn("left", cuts(hand, left + more, other, held))
                        self.assertNotIn("right", cuts(hand, other, right + more, held))
            if left:
                self.assertTrue(any("left" in cuts(hand, left - 1, other, held)
                                    for other in range(16) for held in range(4)))
            if right:
                self.assertTrue(any("right" in cuts(hand, other, right - 1, held)
                                    for other in range(16) for held in range(4)))


class Unchanged(unittest.TestCase):
    def test_nothing_is_changed_and_lists_and_tuples_are_told_alike(self):
        chance = seeded(7)
        for _ in range(40):
            sheet, hand = some_sheet(chance), some_hand(chance)
            asked = (
                lambda sheet, hand: is_hand(hand), lambda sheet, hand: is_sheet(sheet),
                lambda sheet, hand: weight(hand), lambda sheet, hand: reaches(hand),
                lambda sheet, hand: press(sheet, hand), lambda sheet, hand: press(sheet, hand, times=9),
            )
            for ask in asked:
                told = []
                for form in (lambda thing: thing, as_lists, as_tuples):
                    one, two = form(sheet), form(hand)
                    kept = frozen((one, two))
                    told.append(ask(one, two))
                    told.append(ask(one, two))
                    self.assertEqual((one, two), kept)
                self.assertEqual(told, [told[0]] * 6)

    def test_what_is_refused_is_unchanged(self):
        sheet, hand = ["abc", 1, "x"], [["left", 1], ["write", "a"]]
        with self.assertRaises(NoTimes):
            press(sheet, hand, times=301)
        with self.assertRaises(NoHand):
            press(sheet, hand + [["up"]])
        self.assertEqual((sheet, hand), (["abc", 1, "x"], [["left", 1], ["write", "a"]]))


if __name__ == "__main__":
    unittest.main()
