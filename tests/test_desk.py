import inspect
import unittest

from blindkeys.courses import course
from blindkeys.desk import Desk
from blindkeys.errors import (
    Full, NoHand, NoName, NoNumber, NoPlace, NoRow, NoStand, Nothing, NoTimes,
)
from blindkeys.rings import printer, rings
from blindkeys.roads import origin
from blindkeys.writing import show_hand
from marks import plain_press
from test_writing import NO_HANDS, NO_KEYS
from things import anything, light_hand, seeded

FAR = 10 ** 30
HUGE = "9" * 3990
NAMES = ["a", "z", "hand", "text", "press", "abcdefgh", "left", "none", "ok"]
NO_NAMES = ["", "A", "aB", "abcdefghi", "a1", "1", "-", "a-b", "\u00e9", "a\n", "a" * 60, "a:", "a,b"]
NO_NUMBERS = ["", "-1", "+1", "01", "00", "1.0", "a", "1a", "\u0661", "\u00b2", "1_0", "0x1",
              "-", "1\n", "-0", "1,", "0" * 50]


def a_desk():
    """A desk with hands and a text on which something was done."""
    desk = Desk()
    for row in ("hand left: left 1", "hand typer: write xy", "hand prints: " + show_hand(printer([2, 3])),
                "hand keeps: copy 2, paste", "hand idle: ", "text 2 pq abc*2 de*1", "press keeps 2", "press typer 1"):
        desk.say(row)
    return desk


ALL_ASKED = ["lengths", "looks 0 2000", "clip", "hands", *[f"origin {place}" for place in range(14)],
             *[f"letter {place}" for place in range(14)],
             *[f"{kind} {name}" for kind in ("course", "rings")
               for name in ("left", "typer", "prints", "keeps", "idle")]]


def all_told(desk):
    return [desk.say(row) for row in ALL_ASKED]


class Rows(unittest.TestCase):
    def says(self, desk, told):
        for row, due in told:
            self.assertEqual(desk.say(row), due, row)

    def test_a_new_desk(self):
        self.says(Desk(), [("hands", "none"), ("lengths", "0 0 0"), ("clip", "-"), ("looks 0 60", "-"),
                           ("looks 0 0", "-"), ("lengths", "0 0 0")])

    def test_hands(self):
        desk = Desk()
        self.says(desk, [("hand b: left 1, paste", "ok"), ("hand a: ", "ok"), ("hand abcdefgh: write hand", "ok"),
                         ("hands", "a abcdefgh b"), ("hand b: write z", "ok"), ("hands", "a abcdefgh b"),
                         ("press b 3", "ok"),
                         ("looks 0 9", "zzz"), ("press a 9", "ok"), ("press abcdefgh 1", "ok"),
                         ("looks 0 9", "zzzhand")])

    def test_every_name(self):
        desk = Desk()
        for name in NAMES:
            self.says(desk, [(f"hand {name}: write {name}", "ok"), ("text 0 - -", "ok"), (f"press {name} 2", "ok"),
                             ("looks 0 60", name * 2), (f"rings {name}", "none"),
                             (f"course {name}", f"0 1 {len(name)} 0")])
        self.says(desk, [("hands", " ".join(sorted(NAMES)))])

    def test_texts(self):
        self.says(Desk(), [
            ("text 3 pq abc*2 d*1", "ok"), ("lengths", "3 4 2"), ("looks 0 60", "abcabcd"), ("clip", "pq"),
            ("letter 6", "d"),
            ("text 0 - -", "ok"), ("lengths", "0 0 0"), ("looks 0 60", "-"), ("clip", "-"), ("text 0 z -", "ok"),
            ("clip", "z"),
            (f"text {FAR} - a*{FAR}", "ok"), ("lengths", f"{FAR} 0 0"), (f"letter {FAR - 1}", "a"),
            (f"looks {FAR} 9", "-"),
            ("text 0 " + "b" * 60 + " -", "ok"), ("clip", "b" * 60), ("text 40 - " + " ".join(["q*1"] * 40), "ok"),
            ("lengths", "40 0 0"), ("text 1 text text*1", "ok"), ("looks 0 9", "text"),
        ])

    def test_pressing_and_undoing(self):
        desk = Desk()
        self.says(desk, [
            ("hand w: write ab, left 1", "ok"), ("press w 2", "ok"), ("looks 0 9", "aabb"), ("lengths", "2 2 0"),
            ("press w 0", "ok"), ("undo", "ok"), ("looks 0 9", "aabb"), ("undo", "ok"), ("lengths", "0 0 0"),
            (f"press w {FAR}", "ok"), ("lengths", f"{FAR} {FAR} 0"), ("undo", "ok"), ("lengths", "0 0 0"),
        ])

    def test_looks_letters_and_origins(self):
        desk = a_desk()
        # ab|cabcde with pq comes to abcacaxy|cabcde with ca.
        self.says(desk, [
            ("lengths", "8 6 2"), ("looks 0 60", "abcacaxycabcde"), ("looks 4 3", "cax"), ("looks 14 5", "-"),
            ("looks 3 0", "-"),
            ("looks 13 2000", "e"), ("letter 0", "a"), ("letter 7", "y"), ("letter 13", "e"), ("clip", "ca"),
            ("origin 0", "first 0"), ("origin 2", "first 2"), ("origin 5", "first 3"), ("origin 6", "typed 1 0 0 0"),
            ("origin 7", "typed 1 0 0 1"), ("origin 8", "first 2"), ("origin 13", "first 7"),
            ("text 1 klm a*1", "ok"), ("hand p: paste", "ok"), ("press p 2", "ok"), ("origin 3", "clip 2"),
            ("origin 4", "clip 0"),
        ])

    def test_courses_and_rings(self):
        desk = a_desk()
        self.says(desk, [
            ("course left", "8 1 0 0"), ("course typer", "0 1 2 0"), ("course keeps", "0 1 2 0"),
            ("course idle", "0 1 0 0"),
            ("rings prints", "2 3"), ("rings keeps", "1 1"), ("rings typer", "none"), ("rings idle", "none"),
            ("text 9 - a*9", "ok"), ("hand eats: rub 2, write z", "ok"), ("course eats", "8 1 0 0"),
            (f"text {FAR} - a*{FAR}", "ok"), ("course eats", f"{FAR - 1} 1 0 0"), ("course left", f"{FAR} 1 0 0")])

    def test_a_course_of_fewer_letters(self):
        desk = Desk()
        self.says(desk, [("text 0 - a*9", "ok"), ("hand e: strike 2, write a", "ok"), ("course e", "5 1 1 0"),
                         ("hand f: cut 2", "ok"), ("course f", "6 1 0 0")])

    def test_a_hand_told_anew_changes_nothing_that_was_done(self):
        desk = Desk()
        self.says(desk, [("hand a: write x", "ok"), ("press a 2", "ok"),
                         ("hand a: write y, left 1", "ok"), ("looks 0 9", "xx"),
                         ("origin 0", "typed 0 0 0 0"), ("press a 2", "ok"), ("looks 0 9", "xxyy"), ("undo", "ok"),
                         ("looks 0 9", "xx"), ("lengths", "2 0 0"), ("rings a", "none")])

    def test_a_new_text_keeps_the_hands_and_forgets_the_play(self):
        desk = Desk()
        self.says(desk, [("hand a: write x", "ok"), ("press a 2", "ok"), ("text 0 - b*3", "ok"), ("looks 0 9", "bbb"),
                         ("hands", "a"), ("press a 1", "ok"), ("looks 0 9", "xbbb"), ("undo", "ok")])
        with self.assertRaises(Nothing):
            desk.say("undo")

    def test_two_desks_know_nothing_of_one_another(self):
        one, two = Desk(), Desk()
        self.says(one, [("hand a: write x", "ok"), ("press a 2", "ok")])
        self.says(two, [("hands", "none"), ("lengths", "0 0 0")])
        with self.assertRaises(NoName):
            two.say("press a 1")
        self.says(two, [("hand a: write y", "ok"), ("press a 1", "ok"), ("looks 0 9", "y")])
        self.says(one, [("looks 0 9", "xx"), ("undo", "ok"), ("press a 1", "ok"), ("looks 0 9", "x")])

    def test_rows_against_pressing(self):
        chance = seeded(121)
        for _ in range(40):
            desk, hands, sheets = Desk(), {}, [("abcab", 2, "kl")]
            desk.say("text 2 kl abc*1 ab*1")
            play = []
            for _ in range(chance.randint(1, 25)):
                kind = chance.choice(("hand", "press", "press", "undo"))
                if kind == "hand":
                    name = chance.choice("uvw")
                    hands[name] = light_hand(chance, 20)
                    self.assertEqual(desk.say(f"hand {name}: {show_hand(hands[name])}"), "ok")
                elif kind == "press" and hands and len(play) < 12:
                    name, times = chance.choice(sorted(hands)), chance.randint(0, 3)
                    self.assertEqual(desk.say(f"press {name} {times}"), "ok")
                    play.append((hands[name], times))
                    sheets.append(sheets[-1])
                    for _ in range(times):
                        sheets[-1] = plain_press(sheets[-1], hands[name])
                elif kind == "undo" and play:
                    self.assertEqual(desk.say("undo"), "ok")
                    play.pop()
                    sheets.pop()
                self.compare(desk, hands, sheets[-1], play)

    def compare(self, desk, hands, sheet, play):
        words, cursor, clip = sheet
        lengths = (cursor, len(words) - cursor, len(clip))
        self.says(desk, [
            ("lengths", f"{lengths[0]} {lengths[1]} {lengths[2]}"), ("clip", clip or "-"),
            ("looks 0 2000", words or "-"),
            ("hands", " ".join(sorted(hands)) or "none"), (f"looks {cursor} 3", words[cursor:cursor + 3] or "-"),
        ])
        for place in range(0, len(words), 5):
            due = " ".join(str(thing) for thing in origin(play, (2, 3, 2), place))
            self.says(desk, [(f"letter {place}", words[place]), (f"origin {place}", due)])
        for name, hand in hands.items():
            due = " ".join(str(thing) for thing in course(hand, lengths))
            self.says(desk, [(f"course {name}", due), (f"rings {name}", " ".join(map(str, rings(hand))) or "none")])


class Refused(unittest.TestCase):
    def refused(self, refused, rows):
        desk = a_desk()
        kept = all_told(desk)
        for number, row in enumerate(rows):
            told = row[:80] if type(row) is str else number
            with self.assertRaises(refused, msg=told) as caught:
                desk.say(row)
            self.assertIs(type(caught.exception), refused, told)
        self.assertEqual(all_told(desk), kept)

    def test_anything_that_is_no_row(self):
        self.refused(NoRow, anything())

    def test_rows_of_no_form(self):
        self.refused(NoRow, [
            "", " ", "\n", "hello", "Hands", "HANDS", "hands ", " hands", "hands a", "hands  ", "undo ", " undo",
            "undo 1", "undo\n",
            "undo a", "lengths ", "lengths 1", "length", "clip ", "clip a", "clip -", "letters 1", "press",
            "press left", "press left ",
            "press 1", "press 1 left", "press left  1", "press  left 1", "press left 1 ", "press left 1 1",
            "press left, 1", "press left: 1",
            "letter", "letter ", "letter 1 1", "letter  1", "letter a", "looks", "looks 1", "looks 1 ", "looks 1 1 1",
            "looks  1 1",
            "looks 1  1", "looks -", "origin", "origin first", "origin 1 1", "course", "course ", "course left left",
            "course 1", "rings",
            "rings ", "rings left ", "rings  left", "rings left keeps", "hand", "hand ", "hand a", "hand a:",
            "hand a paste", "hand a:paste",
            "hand : paste", "hand: paste", "hand a : paste", "hand a b: paste", "hand  a: paste", "hand a:  paste",
            "hand a: paste ",
            "hand a: paste\n", "Hand a: paste", "handa: paste", "a: paste", "hand a, b: paste", "undo\nundo",
            "lengths\n", "undo lengths",
        ])

    def test_texts_of_no_form(self):
        self.refused(NoRow, [
            "text", "text ", "text 0", "text 0 -", "text 0 - ", "text 0  -", "text 0 - a", "text 0 - a*",
            "text 0 - *1", "text 0 - a*1 ",
            "text 0 -  a*1", "text 0 a*1", "text 0  a*1", "text - - -", "text 0 - - -", "text 0 - a*1 -",
            "text 0 - - a*1", "text 0 -- -",
            "text 0 A -", "text 0 a1 -", "text 0 - A*1", "text 0 - a*A", "text 0 - a*01", "text 0 - a*-1",
            "text 0 - a*1*1", "text 0 - a**1",
            "text 0 - a *1", "text 0 - a* 1", "text 0 - a,1", "text 00 - -", "text -1 - -", "text a - -",
            "text 0 none none", "Text 0 - -",
            "text 0 - a*1\n", "text 0 - a*1\nb*1", "text 0 - 1*a", "text 0 - a*1, b*1", " text 0 - -",
            "text 0 - \u00e9*1", "text 0 \u00e9 -",
        ])

    def test_hands_of_no_form(self):
        self.refused(NoRow, [f"hand a: {row}" for row in NO_KEYS] + [f"hand left: {row}" for row in NO_KEYS])

    def test_names_and_numbers_of_no_form(self):
        self.refused(NoRow, [form.format(name) for name in NO_NAMES for form in
                             ("hand {}: paste", "press {} 1", "course {}", "rings {}")])
        self.refused(NoRow, [form.format(number) for number in NO_NUMBERS for form in
                             ("press left {}", "letter {}", "looks {} 1", "looks 1 {}", "origin {}", "text {} - -",
                              "text 0 - a*{}")])

    def test_names_of_no_hand(self):
        self.refused(NoName, ["press a 1", "press lef 1", "press leftleft 1", "course a", "rings a",
                              "rings hands", "press undo 0"])

    def test_form_goes_ahead_of_the_name_and_the_name_ahead_of_the_rest(self):
        self.refused(NoRow, ["press a 01", "press a -1", "press aB 1", "course a a", "rings a ",
                             "hand a: left 0, ", "text 9 - a"])
        self.refused(NoName, [f"press a {FAR + 1}", f"press a {HUGE}"])
        desk = a_desk()
        for _ in range(10):
            desk.say("press idle 1")
        for refused, row in ((NoRow, "press a 01"), (NoName, "press a 1"), (NoTimes, f"press left {FAR + 1}"),
                             (Full, "press left 1")):
            with self.assertRaises(refused):
                desk.say(row)

    def test_what_the_stages_refuse(self):
        self.refused(NoHand, [f"hand left: {row}" for row in NO_HANDS] + [f"hand new: {row}" for row in NO_HANDS])
        self.refused(NoTimes, [f"press left {FAR + 1}", f"press left {HUGE}", "press idle " + "9" * 40])
        self.refused(NoPlace, [f"letter {place}" for place in (14, 15, FAR, HUGE, "8" * 9000)]
                     + [f"origin {place}" for place in (14, FAR, HUGE)]
                     + [f"looks {place} {many}" for place in (15, FAR, HUGE) for many in (1, 2001, HUGE)])
        self.refused(NoNumber, ["looks 0 2001", f"looks 14 {FAR}", f"looks 14 {HUGE}"])
        self.refused(NoStand, [
            "text 1 - -", "text 4 - abc*1", "text 0 - a*0", "text 0 - a*1 b*0", f"text 0 - a*{FAR + 1}",
            f"text 0 - ab*{FAR}",
            f"text {FAR + 1} - a*{FAR}", "text 0 - " + "a" * 61 + "*1", "text 0 - " + " ".join(["a*1"] * 41),
            f"text {HUGE} - a*1",
            f"text 0 - a*{HUGE}", "text 0 " + "a" * 61 + " -", "text 1 z -",
        ])

    def test_twelve_parts_and_one_more(self):
        desk = Desk()
        desk.say("hand a: write x")
        for _ in range(12):
            self.assertEqual(desk.say("press a 1"), "ok")
        for row in ("press a 1", "press a 0", f"press a {FAR}"):
            with self.assertRaises(Full):
                desk.say(row)
        self.assertEqual(desk.say("looks 0 60"), "x" * 12)
        for _ in range(12):
            self.assertEqual(desk.say("undo"), "ok")
        for _ in range(2):
            with self.assertRaises(Nothing):
                desk.say("undo")
        self.assertEqual(desk.say("lengths"), "0 0 0")

    def test_refused_hands_leave_the_ones_so_called(self):
        desk = Desk()
        desk.say("hand a: write x")
        for row in ("hand a: left 0", "hand a: left", "hand b: rub 61", "hand b: "[:-1]):
            with self.assertRaises((NoHand, NoRow)):
                desk.say(row)
        desk.say("press a 2")
        self.assertEqual((desk.say("looks 0 9"), desk.say("hands")), ("xx", "a"))

    def test_refused_texts_leave_the_bench(self):
        desk = a_desk()
        with self.assertRaises(NoStand):
            desk.say("text 5 - a*1")
        desk.say("undo")
        self.assertEqual(desk.say("looks 0 60"), "abcacacabcde")

    def test_arguments_have_their_names(self):
        self.assertEqual(str(inspect.signature(Desk)), "()")
        self.assertEqual(str(inspect.signature(vars(Desk)["say"])), "(self, row)")
        self.assertEqual(Desk.__module__, "blindkeys.desk")

    def test_the_kinds_of_what_is_told(self):
        self.assertEqual({type(told) for told in all_told(a_desk())}, {str})
        self.assertEqual(type(a_desk().say("undo")), str)


if __name__ == "__main__":
    unittest.main()
