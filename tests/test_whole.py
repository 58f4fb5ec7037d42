"""What the document promises over the whole program."""

import ast
import pathlib
import unittest

from blindkeys import errors
from blindkeys.ahead import before, how_many_before, shows_none
from blindkeys.bench import Bench
from blindkeys.courses import behind, course, first_cut
from blindkeys.desk import Desk
from blindkeys.hands import is_hand, is_sheet, press, reaches, weight
from blindkeys.pieces import is_text, letter, looks
from blindkeys.rings import printer, prints, rings, round_of_prints
from blindkeys.roads import after, clip_origins, heirs, is_play, origin
from blindkeys.stands import clip_behind, is_stand, letter_behind, look_alike, looks_behind, size_behind
from blindkeys.tables import parting, table
from blindkeys.writing import read_hand, read_play, show_hand, show_play
from marks import plain_play
from things import PRINT, TURN, anything, seeded, some_play

FAR = 10 ** 30
FOLDER = pathlib.Path(__file__).resolve().parent.parent / "blindkeys"
INTERFACE = {
    "pieces": "is_text length letter looks count nth first_unlike",
    "hands": "is_hand is_sheet weight press reaches",
    "tables": "table parting",
    "courses": "behind course first_cut",
    "roads": "is_play after origin clip_origins heirs",
    "stands": "is_stand size_behind letter_behind looks_behind clip_behind look_alike",
    "rings": "rings prints round_of_prints printer longest_round",
    "again": "comes_again",
    "ahead": "before how_many_before shows_none",
    "bench": "Bench Bench.__init__ Bench.press Bench.undo Bench.play Bench.lengths Bench.letter Bench.looks Bench.clip "
             "Bench.origin Bench.twin Bench.__len__",
    "writing": "show_hand show_play read_hand read_play",
    "desk": "Desk Desk.say",
    "errors": "KeysError NoText NoPlace NoNumber NoLetter NoHand NoSheet NoTimes NoLengths NoPlay NoStand NoRings "
              "NoSeen Full Nothing NoRow NoName TooMany NoWriting",
}


class Interface(unittest.TestCase):
    def test_each_name_is_defined_in_its_file(self):
        for name, due in INTERFACE.items():
            told = set()
            for node in ast.parse((FOLDER / f"{name}.py").read_text()).body:
                if isinstance(node, (ast.FunctionDef, ast.ClassDef)):
                    told.add(node.name)
                    if isinstance(node, ast.ClassDef):
                        told |= {f"{node.name}.{part.name}" for part in node.body if isinstance(part, ast.FunctionDef)}
            self.assertLessEqual(set(due.split()), told, name)

    def test_no_two_refusals_stand_under_one_another(self):
        kinds = [getattr(errors, name) for name in INTERFACE["errors"].split()[1:]]
        for kind in kinds:
            self.assertTrue(issubclass(kind, errors.KeysError))
            self.assertEqual([other for other in kinds if issubclass(kind, other)], [kind])
        self.assertTrue(issubclass(errors.KeysError, ValueError))


class Whole(unittest.TestCase):
    def test_truths_are_told_of_anything(self):
        for number, thing in enumerate(anything()):
            for ask in (is_text, is_hand, is_sheet, is_play, is_stand,
                        lambda thing: shows_none([], (1, 1, 0), "ab", thing)):
                self.assertIn(ask(thing), (True, False), number)

    def test_all_stages_tell_the_same(self):
        chance = seeded(131)
        for _ in range(60):
            play, words, clip = some_play(chance, 4, 4), "abcdefgh"[:chance.randint(0, 8)], "xyz"[:chance.randint(0, 3)]
            left = chance.randint(0, len(words))
            stand, lengths = ([(words, 1)] if words else [], left, clip), (left, len(words) - left, len(clip))
            sheet = (words, left, clip)
            bench, desk = Bench(stand[0], cursor=left, clip=clip), Desk()
            desk.say(f"text {left} {clip or '-'} {words + '*1' if words else '-'}")
            for hand, times in play:
                sheet = press(sheet, hand, times=times)
                bench.press(hand, times=times)
                desk.say("hand a: " + show_hand(hand))
                desk.say(f"press a {times}")
            self.assertEqual(sheet, plain_play((words, left, clip), play))
            there = (sheet[1], len(sheet[0]) - sheet[1], len(sheet[2]))
            self.assertEqual((after(play, lengths), bench.lengths()), (there, there))
            self.assertEqual(desk.say("lengths"), " ".join(map(str, there)))
            self.assertEqual((looks_behind(stand, play, 0, many=2000), bench.looks(0, many=2000)), (sheet[0], sheet[0]))
            self.assertEqual(desk.say("looks 0 2000"), sheet[0] or "-")
            self.assertEqual((clip_behind(stand, play), bench.clip()), (sheet[2], sheet[2]))
            self.assertEqual(desk.say("clip"), sheet[2] or "-")
            kind, first, held = before(play, lengths, sheet[0])
            self.assertEqual(kind, "from")
            for sign, due in zip(first + held, words + clip):
                self.assertIn(sign, (None, due))
            for place in range(len(words)):
                # A first letter is known just where it has heirs.
                self.assertEqual(first[place] is not None, heirs(play, lengths, place) != [])
            self.assertEqual(read_play(show_play(play)), bench.play())

    def test_lengths_alone_tell_what_a_pressing_does(self):
        chance = seeded(132)
        for _ in range(60):
            play, lengths = some_play(chance, 3, 4), (chance.randint(0, 5), chance.randint(0, 5), chance.randint(0, 3))
            left, right, held = lengths
            marks = [chr(200 + number) for number in range(left + right + held)]
            other = plain_play(("".join(marks[:left + right]), left, "".join(marks[left + right:])), play)
            for place, sign in enumerate(other[0]):
                mark = origin(play, lengths, place)
                if mark[0] == "typed":
                    due = play[mark[1]][0][mark[3]][1][mark[4]]
                else:
                    due = marks[mark[1] + (left + right if mark[0] == "clip" else 0)]
                self.assertEqual(sign, due)

    def test_kept_rings_print_rows_that_come_again_by_their_least_common_times(self):
        hand = printer([2, 3, 4])
        stand, play = ([("abcdefghi", 1)], 0, ""), [(hand, FAR)]
        many = round_of_prints(hand)
        self.assertEqual((many, rings(hand)), (12, [2, 3, 4]))
        row = looks_behind(stand, play, 3 * (FAR // 2), many=72)
        self.assertEqual(row[:36], row[36:])
        for shorter in (1, 2, 3, 4, 6):
            self.assertNotEqual(row[:36], row[3 * shorter:][:36])
        self.assertEqual(row, looks_behind(stand, play, 3 * (FAR // 2) + 36 * 10 ** 27, many=72))

    def test_the_same_asked_again_is_told_the_same(self):
        hand, play, lengths = PRINT[3], [(PRINT[3], FAR), (TURN[5], 7)], (2, 9, 1)
        stand = ([("abcde", 9)], 3, "q")
        asks = [
            lambda: weight(hand), lambda: reaches(hand), lambda: table(hand, lengths), lambda: parting(hand, TURN[3]),
            lambda: behind(hand, lengths, FAR), lambda: course(hand, lengths), lambda: first_cut(hand, lengths),
            lambda: after(play, lengths), lambda: origin(play, lengths, FAR), lambda: clip_origins(play, lengths),
            lambda: heirs(play[1:], lengths, 3), lambda: size_behind(stand, play),
            lambda: letter_behind(stand, play, FAR),
            lambda: look_alike(stand, play, stand, play, FAR, 60), lambda: prints(hand),
            lambda: how_many_before([], (1, 1, 9), "ab"),
            lambda: letter(stand[0], 3), lambda: looks(stand[0], 3, 9), lambda: show_play(play),
            lambda: read_hand("left 3"),
        ]
        first = [ask() for ask in asks]
        self.assertEqual([ask() for ask in reversed(asks)][::-1], first)
        self.assertEqual([ask() for ask in asks], first)

    def test_what_is_told_may_be_handed_in(self):
        hand = printer([4, 5])
        bench = Bench([("abcdefghi", 1)])
        bench.press(read_hand(show_hand(hand)), times=FAR)
        lengths = bench.lengths()
        self.assertEqual(course(hand, lengths), (0, 1, 2, 0))
        self.assertEqual(behind(hand, behind(hand, lengths, FAR), FAR), (6 * FAR, 9, 1))
        self.assertEqual(after(bench.play(), after(bench.play(), lengths)), (6 * FAR, 9, 1))
        mark = bench.origin(2 * FAR - 1)
        self.assertEqual(bench.letter(2 * FAR - 1), letter([("abcdefghi", 1)], mark[1]))
        parted = parting([("copy", 2)], [("copy", 3)])
        self.assertNotEqual(table([("copy", 2)], parted), table([("copy", 3)], parted))
        words, cursor, clip = press(("", 0, "ab" * 30), [("paste",)] * 30 + [("copy", 1)], times=300)
        self.assertEqual((len(words), cursor, clip), (1800, 1800, ""))
        self.assertEqual(before([], (cursor, len(words) - cursor, 0), words), ("from", list(words), []))
        sheet = press(("", 0, "ab" * 30), [("paste",)] * 30, times=9)
        self.assertEqual(len(press(sheet, [("paste",)])[0]), 9 * 1800 + 60)


if __name__ == "__main__":
    unittest.main()
