import inspect
import unittest

from blindkeys import writing as module
from blindkeys.errors import NoHand, NoPlay, NoWriting
from blindkeys.hands import is_hand
from blindkeys.roads import is_play
from blindkeys.writing import read_hand, read_play, show_hand, show_play
from things import (
    KINDS, NEARLY_HANDS, NEARLY_PLAYS, anything, as_lists, as_tuples, frozen, light_hand, seeded, some_hand,
)

FAR = 10 ** 30
WRITTEN = {
    "": [], "paste": [("paste",)], "write a": [("write", "a")], "left 3, paste, write abc": [
        ("left", 3), ("paste",), ("write", "abc")],
    "write left, left 1": [("write", "left"), ("left", 1)], "write paste, paste": [("write", "paste"), ("paste",)],
    "left 1, right 2, strike 3, rub 4, copy 5, cut 6": [(kind, at + 1) for at, kind in enumerate(
        ("left", "right", "strike", "rub", "copy", "cut"))],
    "rub 60": [("rub", 60)], "write " + "z" * 60: [("write", "z" * 60)], ", ".join(["paste"] * 60): [("paste",)] * 60,
}
# Rows that no hand is written by, whatever their numbers and words are worth.
NO_KEYS = [
    " ", "  ", ",", ", ", "paste ", " paste", "paste,", "paste, ", ", paste", "paste,paste", "paste,  paste",
    "paste ,paste",
    "paste , paste", "paste; paste", "paste\n", "\npaste", "paste\npaste", "Paste", "PASTE", "past", "pastes",
    "paste 1",
    "left", "left ", "left  3", "left 3 ", " left 3", "left\t3", "left3", "left a", "left -1", "left +1", "left 03",
    "left 00",
    "left 3.0", "left 1e3", "left 1_0", "left 0x1", "left 3 3", "left 3,", "left 3,right 3", "left \u0663",
    "left \u00b2",
    "left 3\n", "Left 3", "up 3", "3", "3 left", "write", "write ", "write  a", "write a ", "write A", "write aB",
    "write a b",
    "write 3", "write a1", "write a-b", "write \u00e9", "write a\n", "write -", "Write a", "writea", "write a,b",
    "write a, b",
    "-", "none", "left 3, , paste", "(left, 3)", "[('left', 3)]", "left 3, up 2", "write a, write", "paste\u00a0",
    "1: paste",
    "\udc80", "left \udc80", "\x00",
]
# Rows that have a form, but tell no hand.
NO_HANDS = [
    "left 0", "rub 61", "left 30, right 31", "cut " + "9" * 40, "copy 1" + "0" * 3990, "write " + "a" * 61,
    "right " + "9" * 41,
    "write " + "a" * 60 + ", paste", ", ".join(["paste"] * 61), "paste, left 0", "strike 0, strike 61",
    "write " + "a" * 3990,
    "left 1, " * 60 + "left 1", "left " + "9" * 5000, "left " + "7" * 9000 + ", paste",
]


class Hands(unittest.TestCase):
    def test_there_and_back(self):
        for row, hand in WRITTEN.items():
            self.assertEqual(show_hand(hand), row)
            self.assertEqual(read_hand(row), hand)

    def test_all_hands_there_and_back(self):
        chance = seeded(111)
        for number in range(300):
            hand = light_hand(chance, 60, 20, 30) if number % 2 else some_hand(chance)
            row = show_hand(hand)
            self.assertEqual(read_hand(row), hand)
            self.assertEqual(show_hand(read_hand(row)), row)
            self.assertEqual(row.count(", "), max(0, len(hand) - 1))

    def test_what_has_no_form(self):
        for row in NO_KEYS:
            with self.assertRaises(NoWriting, msg=repr(row)) as caught:
                read_hand(row)
            self.assertEqual(caught.exception.line, 0)

    def test_what_has_a_form_and_is_no_hand(self):
        for row in NO_HANDS:
            with self.assertRaises(NoHand, msg=row[:40]):
                read_hand(row)

    def test_form_goes_ahead_of_what_it_is_worth(self):
        for row in ("left 0, paste,", "rub 61, left 03", "left 03, rub 61", "write " + "a" * 61 + ", write B"):
            with self.assertRaises(NoWriting) as caught:
                read_hand(row)
            self.assertEqual(caught.exception.line, 0)

    def test_what_is_no_text(self):
        for ask in (read_hand, read_play):
            for number, thing in enumerate(anything()):
                if type(thing) is not str:
                    with self.assertRaises(NoWriting, msg=number) as caught:
                        ask(thing)
                    self.assertIsNone(caught.exception.line)

    def test_what_is_no_hand_is_not_written(self):
        for number, thing in enumerate(NEARLY_HANDS + anything()):
            with self.assertRaises(NoHand, msg=number):
                show_hand(thing)

    def test_every_key_of_every_weight(self):
        for kind in KINDS:
            for k in range(1, 61):
                self.assertEqual(show_hand([(kind, k)]), f"{kind} {k}")
                self.assertEqual(read_hand(f"{kind} {k}"), [(kind, k)])


class Plays(unittest.TestCase):
    PLAYS = {
        "": [], "1: ": [([], 1)], "0: ": [([], 0)], "0: paste": [([("paste",)], 0)], "2: \n3: ": [([], 2), ([], 3)],
        "10: left 3, write ab\n0: \n1000000000000000000000000000000: paste": [
            ([("left", 3), ("write", "ab")], 10), ([], 0), ([("paste",)], FAR)],
        "\n".join(["7: rub 60"] * 12): [([("rub", 60)], 7)] * 12,
    }

    def test_there_and_back(self):
        for text, play in self.PLAYS.items():
            self.assertEqual(show_play(play), text)
            self.assertEqual(read_play(text), play)

    def test_all_plays_there_and_back(self):
        chance = seeded(112)
        for _ in range(150):
            play = [(some_hand(chance), chance.choice((0, 1, 10, FAR, chance.randrange(FAR))))
                    for _ in range(chance.randint(0, 12))]
            text = show_play(play)
            self.assertEqual(read_play(text), play)
            self.assertEqual(show_play(read_play(text)), text)
            self.assertEqual(text.count("\n"), max(0, len(play) - 1))

    def test_what_has_no_form_alone_amid_others_and_at_the_end(self):
        bad = [f"1: {row}" for row in NO_KEYS if "\n" not in row] + [
            "1:", "1", ":", ": ", ": paste", "1 : paste", "1:paste", "1:  paste", " 1: paste", "01: paste", "00: ",
            "-1: paste",
            "+1: paste", "1.0: paste", "a: paste", "1: 1: paste", "1, paste", "paste", "left 3", "\u0661: paste",
            "1;: ", "1:\tpaste",
            "1_0: paste", "1 1: paste", "\r", "1: paste\r", "x", "1: \u2028",
        ]
        for row in bad:
            for line, text in (
                (0, row), (0, row + "\n1: paste"), (1, "1: paste\n" + row), (2, "0: \n5: left 1\n" + row),
                (1, "0: rub 61\n" + row + "\n2: paste\n" + row), (13, "1: \n" * 13 + row), (0, row + "\n" + row),
            ):
                with self.assertRaises(NoWriting, msg=repr(text)) as caught:
                    read_play(text)
                self.assertEqual(caught.exception.line, line, repr(text))

    def test_empty_rows(self):
        for text, line in (("\n", 0), ("1: \n", 1), ("\n1: ", 0), ("1: paste\n\n1: paste", 1), ("1: \n1: \n", 2),
                           ("\n\n", 0)):
            with self.assertRaises(NoWriting) as caught:
                read_play(text)
            self.assertEqual(caught.exception.line, line)

    def test_what_has_a_form_and_is_no_play(self):
        for text in [f"1: {row}" for row in NO_HANDS] + [f"1: paste\n1: {row}\n0: " for row in NO_HANDS] + [
            "1000000000000000000000000000001: ", "9" * 40 + ": paste", "9" * 3990 + ": ", "1" + "0" * 31 + ": ",
            "8" * 9000 + ": ",
            "\n".join(["1: "] * 13), "\n".join(["0: paste"] * 300), "1: \n" * 12 + "1: ",
        ]:
            with self.assertRaises(NoPlay, msg=text[:40]):
                read_play(text)

    def test_what_is_no_play_is_not_written(self):
        for number, thing in enumerate(NEARLY_PLAYS + anything()):
            if type(thing) not in (list, tuple) or len(thing) > 0:
                with self.assertRaises(NoPlay, msg=number):
                    show_play(thing)


class Asked(unittest.TestCase):
    def test_lists_and_tuples_are_told_alike_and_nothing_is_changed(self):
        hand = [("left", 3), ("write", "ab"), ("paste",)]
        for ask, thing in ((show_hand, hand), (show_play, [(hand, 5), ([], 0)])):
            told = []
            for form in (lambda thing: thing, as_lists, as_tuples):
                handed = form(thing)
                kept = frozen(handed)
                told += [ask(handed), ask(handed)]
                self.assertEqual(handed, kept)
            self.assertEqual(told, [told[0]] * 6)

    def test_the_kinds_of_what_is_told(self):
        hand, play = read_hand("left 3, paste"), read_play("3: left 3, paste\n0: ")
        self.assertIs(is_hand(hand), True)
        self.assertIs(is_play(play), True)
        self.assertEqual((type(hand), {type(key) for key in hand}), (list, {tuple}))
        self.assertEqual((type(play), {type(part) for part in play}), (list, {tuple}))
        for part in play:
            self.assertEqual((type(part[0]), {type(key) for key in part[0]} - {tuple}), (list, set()))
        self.assertEqual((type(show_hand(hand)), type(show_play(play))), (str, str))

    def test_told_lists_are_the_askers_own(self):
        for text in ("", "left 3, paste"):
            kept = frozen(read_hand(text))
            read_hand(text).append(("rub", 1))
            self.assertEqual(read_hand(text), kept)
        for text in ("", "0: ", "3: left 3, paste\n0: "):
            kept = frozen(read_play(text))
            told = read_play(text)
            for part in told:
                part[0].append(("rub", 1))
            told.append(([], 1))
            self.assertEqual(read_play(text), kept)

    def test_arguments_have_their_names(self):
        for name, due in {
            "show_hand": "(hand)", "show_play": "(play)", "read_hand": "(text)", "read_play": "(text)",
        }.items():
            asked = getattr(module, name)
            self.assertEqual(str(inspect.signature(asked)), due)
            self.assertEqual(asked.__module__, "blindkeys.writing")


if __name__ == "__main__":
    unittest.main()
