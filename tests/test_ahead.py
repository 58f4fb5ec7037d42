import inspect
import itertools
import unittest

from blindkeys import ahead as module
from blindkeys.ahead import before, how_many_before, shows_none
from blindkeys.errors import NoLengths, NoPlay, NoSeen
from marks import behind_play, plain_play
from things import (
    NEARLY_PLAYS, PRINT, anything, as_lists, as_tuples, frozen, nearly_lengths, seeded, some_play,
)

FAR = 10 ** 30
LETTERS = "abcdefghijklmnopqrstuvwxyz"
ASKS = (before, how_many_before, lambda play, by, seen: shows_none(play, by, seen, None))


def seen_of(words, cursor, clip, play):
    return plain_play((words, cursor, clip), play)[0]


def some_words(chance, many, sign=LETTERS):
    return "".join(chance.choice(sign) for _ in range(many))


class Before(unittest.TestCase):
    def test_an_ordinary_play(self):
        play = [([("copy", 1), ("paste",), ("write", "x")], 2), ([("rub", 1)], 1)]
        # |ab with a clip comes to axaxab, and to axa|ab by the last part.
        self.assertEqual(before(play, (0, 2, 1), "axaab"), ("from", ["a", "b"], [None]))
        self.assertEqual(how_many_before(play, (0, 2, 1), "axaab"), 26)
        self.assertEqual(before(play, (0, 2, 0), "zxzzz"), ("from", ["z", "z"], []))
        self.assertEqual(how_many_before(play, (0, 2, 0), "zxzzz"), 1)
        self.assertEqual(before(play, (0, 2, 1), "axbab"), ("unlike", 0, 2))
        self.assertEqual(before(play, (0, 2, 1), "axaba"), ("unlike", 0, 3))
        self.assertEqual(before(play, (0, 2, 1), "ayaab"), ("unlike", None, 1))
        self.assertEqual(before(play, (0, 2, 1), "aybab"), ("unlike", None, 1))
        self.assertEqual(how_many_before(play, (0, 2, 1), "aybab"), 0)

    def test_first_clips(self):
        play = [([("paste",), ("right", 1), ("paste",)], 1)]
        self.assertEqual(before(play, (0, 2, 2), "abcabd"), ("from", ["c", "d"], ["a", "b"]))
        self.assertEqual(before(play, (0, 2, 2), "abcacd"), ("unlike", 1, 4))
        self.assertEqual(before([([("cut", 1), ("paste",)], 1)], (0, 1, 3), "a"), ("from", ["a"], [None] * 3))
        self.assertEqual(how_many_before([([("cut", 1), ("paste",)], 1)], (0, 1, 3), "a"), 26 ** 3)
        self.assertEqual(before([([("paste",), ("rub", 1)], 1)], (0, 0, 3), "pq"), ("from", [], ["p", "q", None]))

    def test_nothing_is_left_or_nothing_was(self):
        self.assertEqual(before([], (0, 0, 0), ""), ("from", [], []))
        self.assertEqual(how_many_before([], (0, 0, 0), ""), 1)
        self.assertEqual(before([([("strike", 5)], 1)], (0, 3, 2), ""), ("from", [None] * 3, [None] * 2))
        self.assertEqual(how_many_before([([("strike", 5)], 1)], (0, 3, 2), ""), 26 ** 5)
        self.assertEqual(before([([("write", "ab")], 2)], (0, 0, 0), "abab"), ("from", [], []))
        self.assertEqual(before([([("write", "ab")], 2)], (0, 0, 0), "abba"), ("unlike", None, 2))
        self.assertEqual(before([], (1, 2, 1), "abc"), ("from", ["a", "b", "c"], [None]))

    def test_a_typed_letter_goes_ahead_of_its_copies(self):
        # Both letters were typed by one key of one pressing, and the latter one is seen otherwise.
        play = [([("write", "a"), ("left", 1), ("copy", 1), ("paste",)], 1)]
        self.assertEqual(before(play, (0, 0, 0), "aa"), ("from", [], []))
        self.assertEqual(before(play, (0, 0, 0), "ab"), ("unlike", None, 1))
        self.assertEqual(before(play, (0, 0, 0), "ba"), ("unlike", None, 0))
        self.assertEqual(before(play, (0, 0, 0), "bb"), ("unlike", None, 0))

    def test_the_first_of_several_places(self):
        play = [([("copy", 1), ("paste",)], 4)]
        self.assertEqual(before(play, (0, 1, 0), "aaaba"), ("unlike", 0, 3))
        self.assertEqual(before(play, (1, 1, 0), "xaabba"), ("unlike", 1, 3))
        self.assertEqual(before(play, (1, 1, 0), "xbaaaa"), ("unlike", 1, 2))

    def test_what_is_told_comes_to_the_seen_text(self):
        chance = seeded(91)
        free = 0
        for _ in range(300):
            play, (left, right, held) = some_play(chance, 3, 4), [chance.choice((0, 1, 4, 9)) for _ in range(3)]
            words, clip = some_words(chance, left + right), some_words(chance, held)
            seen = seen_of(words, left, clip, play)
            kind, first, other = before(play, (left, right, held), seen)
            self.assertEqual((kind, len(first), len(other)), ("from", left + right, held))
            for sign, due in zip(first + other, words + clip):
                self.assertIn(sign, (None, due))
            many = (first + other).count(None)
            self.assertEqual(how_many_before(play, (left, right, held), seen), 26 ** many)
            free += many > 0
            for _ in range(3):
                filled = [sign or chance.choice(LETTERS) for sign in first + other]
                again = seen_of("".join(filled[:left + right]), left, "".join(filled[left + right:]), play)
                self.assertEqual(again, seen, (play, left))
            # Any letter that was told otherwise comes to something else.
            for at, sign in enumerate(first + other):
                if sign:
                    filled = [thing or "a" for thing in first + other]
                    filled[at] = "b" if sign == "a" else "a"
                    again = seen_of("".join(filled[:left + right]), left, "".join(filled[left + right:]), play)
                    self.assertNotEqual(again, seen)
        self.assertGreater(free, 50)

    def test_all_texts_of_two_letters(self):
        chance = seeded(92)
        kinds = []
        for _ in range(300):
            play, (left, right, held) = some_play(chance, 2, 3), [chance.choice((0, 1, 2)) for _ in range(3)]
            play = [([("left", 1), ("copy", 2), ("paste",)], 1)] + play
            rows = ["".join(row) for row in itertools.product("ab", repeat=left + right + held)]
            behind = [seen_of(row[:left + right], left, row[left + right:], play) for row in rows]
            seen = list(chance.choice(behind))
            if seen and chance.randint(0, 1):
                seen[chance.randrange(len(seen))] = chance.choice("abxyz")
            seen = "".join(seen)
            told = before(play, (left, right, held), seen)
            kinds.append(told[0])
            due = [row for row, other in zip(rows, behind) if other == seen]
            if told[0] == "unlike":
                self.assertEqual(due, [])
                self.assertEqual(how_many_before(play, (left, right, held), seen), 0)
            elif "x" not in (told[1] + told[2]) and "y" not in (told[1] + told[2]) and "z" not in (told[1] + told[2]):
                free = (told[1] + told[2]).count(None)
                self.assertEqual(len(due), 2 ** free)
                self.assertEqual(how_many_before(play, (left, right, held), seen), 26 ** free)
        self.assertGreater(min(kinds.count("from"), kinds.count("unlike")), 20)

    def due_paper(self, play, lengths, seen):
        """The first place that can't be, by the marks that letters have when each key is done."""
        words = behind_play(play, lengths).words
        for place, mark in enumerate(words):
            if mark[0] == "typed":
                if play[mark[1]][0][mark[3]][1][mark[4]] != seen[place]:
                    return "unlike", None, place
            else:
                for ahead in range(place):
                    if words[ahead] == mark and seen[ahead] != seen[place]:
                        return "unlike", ahead, place
        return None

    def test_letters_that_are_seen_otherwise(self):
        chance = seeded(93)
        kinds = []
        for _ in range(500):
            play, (left, right, held) = some_play(chance, 3, 4), [chance.choice((0, 1, 4, 9)) for _ in range(3)]
            play = [([("left", 1), ("copy", 2), ("paste",)], 2)] + play
            seen = list(seen_of(some_words(chance, left + right), left, some_words(chance, held), play))
            for _ in range(chance.randint(1, 3) if seen else 0):
                seen[chance.randrange(len(seen))] = chance.choice(LETTERS)
            seen = "".join(seen)
            due = self.due_paper(play, (left, right, held), seen)
            told = before(play, (left, right, held), seen)
            if due is None:
                self.assertEqual(told[0], "from")
                kinds.append("from")
            else:
                self.assertEqual(told, due)
                kinds.append(due[1] is None)
                self.assertIs(shows_none(play, (left, right, held), seen, told), True)
        self.assertGreater(min(kinds.count("from"), kinds.count(True), kinds.count(False)), 30)

    def test_two_thousand_letters_and_one_more(self):
        words = (LETTERS * 80)[:2000]
        for left in (0, 777, 2000):
            self.assertEqual(before([], (left, 2000 - left, 60), words), ("from", list(words), [None] * 60))
            self.assertEqual(how_many_before([], (left, 2000 - left, 60), words), 26 ** 60)
            with self.assertRaises(NoLengths):
                before([], (left, 2001 - left, 0), words + "a")
        self.assertEqual(how_many_before([([("strike", 60)], FAR)], (0, 2000, 60), ""), 26 ** 2060)
        self.assertEqual(before([([("strike", 60)], FAR)], (0, 2000, 0), ""), ("from", [None] * 2000, []))
        for lengths in ((2001, 0, 0), (0, 2001, 0), (1, 2000, 0), (FAR, FAR, 0)):
            for ask in ASKS:
                with self.assertRaises(NoLengths):
                    ask([([("strike", 59)], FAR)], lengths, "")

    def test_more_letters_behind_than_ahead(self):
        play = [(PRINT[3], 2500), ([("write", "q")], 500)]
        seen = "abc" * 833 + "a" + "q" * 500 + "bca"
        self.assertEqual(before(play, (0, 3, 0), seen), ("from", ["a", "b", "c"], []))
        self.assertEqual(before(play, (0, 3, 0), seen[:-1] + "b"), ("unlike", 0, 3002))
        self.assertEqual(before(play, (0, 3, 0), "abcabx" + seen[6:]), ("unlike", 2, 5))

    def test_plays_that_are_pressed_far(self):
        play = [([("write", "ab")], FAR), ([("rub", 2)], FAR), ([("copy", 1), ("paste",)], 3), ([("cut", 9)], FAR)]
        self.assertEqual(before(play, (2, 5, 1), "zzccc"), ("from", ["z", "z", "c", *[None] * 4], [None]))
        self.assertEqual(before(play, (2, 5, 1), "zzccd"), ("unlike", 2, 4))


class Papers(unittest.TestCase):
    def setUp(self):
        # |abc with pq comes to axaxpqabc.
        self.play = [([("copy", 1), ("paste",), ("write", "x")], 2), ([("write", "yy")], 1)]
        self.by = (0, 2, 1)
        # The places' letters come from: first 0, x, first 0, x, y, y, first 0, first 1.
        self.seen = "axbzyyca"

    def shows(self, thing):
        return shows_none(self.play, self.by, self.seen, thing)

    def test_all_papers(self):
        for ahead in (None, *range(-2, 10)):
            for place in range(-2, 10):
                due = (ahead, place) in ((None, 3), (0, 2), (0, 6), (2, 6))
                self.assertIs(self.shows(("unlike", ahead, place)), due, (ahead, place))
                self.assertIs(self.shows(["unlike", ahead, place]), due, (ahead, place))

    def test_two_typed_letters_that_come_from_one(self):
        play = [([("write", "a"), ("left", 1), ("copy", 1), ("paste",)], 1)]
        self.assertIs(shows_none(play, (0, 0, 0), "ab", ("unlike", 0, 1)), True)
        self.assertIs(shows_none(play, (0, 0, 0), "ab", ("unlike", None, 1)), True)
        self.assertIs(shows_none(play, (0, 0, 0), "ab", ("unlike", None, 0)), False)
        self.assertIs(shows_none(play, (0, 0, 0), "bb", ("unlike", 0, 1)), False)
        self.assertIs(shows_none(play, (0, 0, 0), "bb", ("unlike", None, 0)), True)
        self.assertIs(shows_none(play, (0, 0, 0), "aa", ("unlike", None, 1)), False)
        # Typed by two pressings they do not come from one.
        self.assertIs(shows_none([([("write", "a")], 2)], (0, 0, 0), "ab", ("unlike", 0, 1)), False)

    def test_letters_of_the_clip(self):
        play = [([("paste",)], 2)]
        self.assertIs(shows_none(play, (0, 0, 2), "abcb", ("unlike", 0, 2)), True)
        self.assertIs(shows_none(play, (0, 0, 2), "abcb", ("unlike", 1, 3)), False)
        self.assertIs(shows_none(play, (0, 0, 2), "abcb", ("unlike", 0, 1)), False)
        self.assertIs(shows_none(play, (0, 0, 2), "abcb", ("unlike", None, 2)), False)

    def test_what_is_no_paper(self):
        for thing in anything() + [
            ("unlike", 0, 2, 0), ("unlike", 2), ("unlike",), ("Unlike", 0, 2), ("from", 0, 2), (0, 2), (0, 2, "unlike"),
            ("unlike", 2, 0), ("unlike", 6, 2), ("unlike", 0, None), ("unlike", None, None), ("unlike", 3, 3),
            ("unlike", False, 2), ("unlike", 0, True), ("unlike", 0.0, 2), ("unlike", 0, 2.0), ("unlike", "0", 2),
            ("unlike", 0, "2"), (["unlike"], 0, 2), ("unlike", (0,), 2), ("unlike", [], 2), (b"unlike", 0, 2),
            ("unlike", -1, 2), ("unlike", 0, -2), ("unlike", 0, 10 ** 6000), ("unlike", -10 ** 6000, 2),
            {"unlike": 0, 0: 2, 1: 1}, "unl", None, ("from", ["a"], []), (("unlike", 0, 2),),
            *[("unlike", thing, 2) for thing in anything() if type(thing) is not int and thing is not None],
            *[("unlike", 0, thing) for thing in anything() if type(thing) is not int],
            *[(thing, 0, 2) for thing in anything()],
        ]:
            self.assertIs(self.shows(thing), False)

    def test_papers_of_a_text_that_comes_of_one(self):
        for ahead in (None, *range(9)):
            for place in range(9):
                self.assertIs(shows_none(self.play, self.by, "axaxyyab", ("unlike", ahead, place)), False)

    def test_no_letters_at_all(self):
        for paper in (("unlike", None, 0), ("unlike", 0, 1), ("unlike", 0, 0)):
            self.assertIs(shows_none([], (0, 0, 0), "", paper), False)


class Refused(unittest.TestCase):
    def test_what_is_no_play_no_lengths_or_not_seen(self):
        play = [([("write", "a")], 4)]
        for ask in ASKS:
            for number, thing in enumerate(NEARLY_PLAYS + anything()):
                if type(thing) not in (list, tuple) or len(thing) > 0:
                    with self.assertRaises(NoPlay, msg=number):
                        ask(thing, (1, 1, 1), "aaaaaa")
            for number, thing in enumerate(nearly_lengths() + anything()):
                with self.assertRaises(NoLengths, msg=number):
                    ask(play, thing, "aaaaaa")
            for number, thing in enumerate(anything() + [
                "baaaa", "baaaaab", "baaaaB", "baaa a", "baaaa\n", "baaa1a", "baaa\u00e9a", "", b"baaaab",
                list("baaaab"),
                [("baaaab", 1)], ("baaaab",), "b" * 4000, None, 6,
            ]):
                with self.assertRaises(NoSeen, msg=number):
                    ask(play, (1, 1, 1), thing)

    def test_a_text_behind_that_is_longer_than_any(self):
        for seen in ("", "a" * 4000):
            with self.assertRaises(NoSeen):
                before([([("write", "a")], FAR)], (0, 0, 0), seen)

    def test_which_goes_first(self):
        for ask in ASKS:
            for refused, handed in (
                (NoPlay, (None, None, None)), (NoPlay, (None, (2001, 0, 0), "")), (NoPlay, (None, (0, 0, 0), None)),
                (NoLengths, ([], None, None)), (NoLengths, ([], (2001, 0, 0), None)), (NoSeen, ([], (1, 0, 0), None)),
                (NoLengths, ([], (2001, 0, 0), "")),
            ):
                with self.assertRaises(refused):
                    ask(*handed)

    def test_arguments_have_their_names(self):
        for name, due in {
            "before": "(play, lengths, seen)", "how_many_before": "(play, lengths, seen)",
            "shows_none": "(play, lengths, seen, thing)",
        }.items():
            asked = getattr(module, name)
            self.assertEqual(str(inspect.signature(asked)), due)
            self.assertEqual(asked.__module__, "blindkeys.ahead")


class Unchanged(unittest.TestCase):
    def test_lists_and_tuples_are_told_alike_and_nothing_is_changed(self):
        chance = seeded(94)
        for _ in range(30):
            play, lengths = some_play(chance, 3, 4), (3, 2, 1)
            seen = seen_of("abcab", 3, "z", play)
            for other in (seen, "q" + seen[1:]) if seen else (seen,):
                for ask in (before, how_many_before, lambda *handed: shows_none(*handed, ("unlike", None, 0))):
                    told = []
                    for form in (lambda thing: thing, as_lists, as_tuples):
                        handed = form(play), form(lengths), other
                        kept = frozen(handed)
                        told += [ask(*handed), ask(*handed)]
                        self.assertEqual(handed, kept)
                    self.assertEqual(told, [told[0]] * 6)

    def test_the_kinds_of_what_is_told(self):
        self.assertIs(type(before([], [1, 1, 1], "ab")), tuple)
        self.assertEqual([type(thing) for thing in before([], [1, 1, 1], "ab")], [str, list, list])
        self.assertIs(type(before([([("write", "a")], 1)], (0, 0, 0), "b")), tuple)
        self.assertIs(type(how_many_before([], [1, 1, 1], "ab")), int)

    def test_told_lists_are_the_askers_own(self):
        told = before([], (1, 1, 2), "ab")
        told[1].append("x")
        told[2].clear()
        self.assertEqual(before([], (1, 1, 2), "ab"), ("from", ["a", "b"], [None, None]))


if __name__ == "__main__":
    unittest.main()
