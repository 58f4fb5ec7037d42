import inspect
import unittest

from blindkeys import roads
from blindkeys.errors import NoLengths, NoPlace, NoPlay, TooMany
from blindkeys.roads import after, clip_origins, heirs, is_play, origin
from marks import behind_play
from things import (
    NEARLY_PLAYS, PRINT, TURN, anything, as_lists, as_tuples, cut_up, frozen, light_hand,
    nearly_lengths, seeded, some_play, whole_bad,
)

FAR = 10 ** 30
ASKS = (after, clip_origins, lambda play, by: origin(play, by, 0), lambda play, by: heirs(play, by, 0))


def some_lengths(chance):
    return chance.choice((0, 1, 4, 30)), chance.choice((0, 1, 4, 30)), chance.choice((0, 1, 3, 8))


def all_origins(play, lengths):
    left, right, _ = after(play, lengths)
    return [origin(play, lengths, place) for place in range(left + right)]


class Plays(unittest.TestCase):
    def test_ordinary_plays(self):
        for play in ([], [([], 0)], [([("left", 1)], 1)], [([], FAR)] * 12, [([("paste",)] * 60, 3)] * 12,
                     [([("write", "ab"), ("cut", 58)], 5), ([], 1)]):
            self.assertIs(is_play(play), True)
            self.assertIs(is_play(as_lists(play)), True)
            self.assertIs(is_play(as_tuples(play)), True)

    def test_twelve_parts_and_one_more(self):
        for part in (([], 0), ([("left", 1)], FAR)):
            self.assertIs(is_play([part] * 12), True)
            self.assertIs(is_play([part] * 13), False)

    def test_most_times_and_one_more(self):
        self.assertIs(is_play([([("rub", 1)], FAR)]), True)
        self.assertIs(is_play([([("rub", 1)], FAR + 1)]), False)
        self.assertIs(is_play([([("rub", 1)], 0)]), True)
        self.assertIs(is_play([([("rub", 1)], -1)]), False)

    def test_nearly_plays_are_none(self):
        for number, thing in enumerate(NEARLY_PLAYS):
            self.assertIs(is_play(thing), False, number)

    def test_anything_is_answered(self):
        for number, thing in enumerate(anything()):
            self.assertIs(is_play(thing), False, number)
            self.assertIs(is_play([thing]), False, number)
            self.assertIs(is_play([(thing, 1)]), False, number)
            self.assertIs(is_play([([], 1), ([], thing)]), type(thing) is int and thing in (0, 1), number)


class Near(unittest.TestCase):
    def test_ordinary_plays(self):
        play = [([("write", "ab"), ("copy", 1)], 2), ([], 5), ([("left", 1), ("paste",), ("rub", 2)], 1)]
        # xy|z comes to xyababa|z with z in the clip, and then to xyaba|bz by the last part.
        self.assertEqual(after([play[0]], (2, 1, 0)), (6, 1, 1))
        self.assertEqual(all_origins([play[0]], (2, 1, 0)), [
            ("first", 0), ("first", 1), ("typed", 0, 0, 0, 0), ("typed", 0, 0, 0, 1),
            ("typed", 0, 1, 0, 0), ("typed", 0, 1, 0, 1), ("first", 2),
        ])
        self.assertEqual(clip_origins([play[0]], (2, 1, 0)), [("first", 2)])
        self.assertEqual(after(play, (2, 1, 0)), (4, 2, 1))
        self.assertEqual(all_origins(play, (2, 1, 0)), [
            ("first", 0), ("first", 1), ("typed", 0, 0, 0, 0), ("typed", 0, 0, 0, 1),
            ("typed", 0, 1, 0, 1), ("first", 2),
        ])
        self.assertEqual([heirs(play, (2, 1, 0), place) for place in range(3)], [[0], [1], [5]])

    def test_a_first_clip(self):
        play = [([("paste",)], 2), ([("left", 1), ("copy", 3)], 1)]
        self.assertEqual(all_origins(play, (1, 1, 2)), [
            ("first", 0), ("clip", 0), ("clip", 1), ("clip", 0), ("clip", 1), ("first", 1)])
        self.assertEqual(clip_origins(play, (1, 1, 2)), [("clip", 1), ("first", 1)])
        self.assertEqual(clip_origins(play[:1], (1, 1, 2)), [("clip", 0), ("clip", 1)])
        self.assertEqual(clip_origins([], (0, 0, 0)), [])

    def test_no_parts(self):
        self.assertEqual(after([], [3, 2, 1]), (3, 2, 1))
        self.assertEqual(after((), (FAR, 10 ** 39, 60)), (FAR, 10 ** 39, 60))
        self.assertEqual(all_origins([], (3, 2, 1)), [("first", place) for place in range(5)])
        self.assertEqual(clip_origins([], (3, 2, 1)), [("clip", 0)])
        self.assertEqual([heirs([], (3, 2, 1), place) for place in range(5)], [[place] for place in range(5)])
        self.assertEqual(origin([], (FAR, FAR, 0), 2 * FAR - 1), ("first", 2 * FAR - 1))

    def test_parts_of_no_pressings_and_hands_of_no_keys_are_counted(self):
        play = [([("write", "z")], 0), ([], FAR), ([("write", "ab")], 1)]
        self.assertEqual(all_origins(play, (1, 0, 0)), [("first", 0), ("typed", 2, 0, 0, 0), ("typed", 2, 0, 0, 1)])

    def test_twelve_parts(self):
        chance = seeded(41)
        for _ in range(6):
            play = [(light_hand(chance, 8, most_keys=3), chance.randint(0, 3)) for _ in range(12)]
            self.compare(play, some_lengths(chance))

    def compare(self, play, lengths):
        due = behind_play(play, lengths)
        self.assertEqual(after(play, lengths), due.lengths(), (play, lengths))
        self.assertEqual(clip_origins(play, lengths), due.clip, (play, lengths))
        # Where a text is long its ends and the letters around the cursor are asked for.
        ends = len(due.words)
        for place, mark in enumerate(due.words):
            if place < 25 or place >= ends - 25 or abs(place - due.cursor) < 25:
                self.assertEqual(origin(play, lengths, place), mark, (play, lengths, place))

    def test_letter_by_letter(self):
        chance = seeded(42)
        for _ in range(150):
            self.compare(some_play(chance, 3, 5), some_lengths(chance))

    def test_letter_by_letter_for_long(self):
        chance = seeded(43)
        for _ in range(25):
            play = [(light_hand(chance, 12, most_keys=7, most=3), chance.randint(20, 90))]
            self.compare(play + some_play(chance, 1, 30), some_lengths(chance))

    def test_lengths_that_swing(self):
        hand = [("cut", 6), ("left", 6), ("paste",), ("paste",), ("rub", 6)]
        for times in (7, 8, 9, 10, 21, 60, 61):
            self.compare([(hand, times)], (13, 2, 53))
            self.compare([(hand, times), ([("write", "x"), ("left", 2)], 2), (hand, times)], (30, 0, 9))
        for odd in (0, 1):
            far, near = [after([(hand, times - odd)], (13, 2, 53)) for times in (FAR, 100)]
            self.assertEqual(far, near)
            for place in range(far[0] + far[1]):
                mark = origin([(hand, FAR - odd)], (13, 2, 53), place)
                self.assertEqual(mark, origin([(hand, 100 - odd)], (13, 2, 53), place))

    def test_heirs_letter_by_letter(self):
        chance = seeded(44)
        lost = doubled = 0
        for _ in range(60):
            play, lengths = some_play(chance, 3, 5), some_lengths(chance)
            play = [([("left", 1), ("copy", 2), ("paste",)], chance.randint(0, 3))] + play
            due = behind_play(play, lengths)
            for place in (0, lengths[0] - 1, lengths[0], lengths[0] + 1, lengths[0] + lengths[1] - 1):
                if 0 <= place < lengths[0] + lengths[1] and len(due.words) <= 200:
                    told = heirs(play, lengths, place)
                    heired = [at for at, mark in enumerate(due.words) if mark == ("first", place)]
                    self.assertEqual(told, heired, (play, lengths, place))
                    lost += told == []
                    doubled += len(told) > 1
        self.assertGreater(min(lost, doubled), 8)

    def test_heirs_of_letters_that_are_lost_or_doubled(self):
        self.assertEqual(heirs([([("rub", 1)], 1)], (3, 2, 0), 2), [])
        self.assertEqual(heirs([([("rub", 1)], 1)], (3, 2, 0), 3), [2])
        self.assertEqual(heirs([([("copy", 1), ("paste",)], 4)], (1, 2, 0), 1), [1, 2, 3, 4, 5])
        self.assertEqual(heirs([([("copy", 2), ("paste",)], 3)], (0, 2, 0), 1), [1, 3, 5, 7])
        self.assertEqual(heirs([([("cut", 1)], 1)], (0, 2, 0), 0), [])
        self.assertEqual(heirs([([("cut", 1)], 1), ([("paste",), ("right", 1)], 2)], (0, 2, 0), 0), [0, 2])


class Far(unittest.TestCase):
    def test_typed_letters(self):
        play = [([("write", "abc")], FAR), ([("right", 1), ("write", "d")], FAR)]
        self.assertEqual(after(play, (2, FAR, 0)), (2 + 5 * FAR, 0, 0))
        for place, due in (
            (0, ("first", 0)), (1, ("first", 1)), (2, ("typed", 0, 0, 0, 0)), (4, ("typed", 0, 0, 0, 2)),
            (5, ("typed", 0, 1, 0, 0)), (2 + FAR, ("typed", 0, FAR // 3, 0, FAR % 3)),
            (1 + 3 * FAR, ("typed", 0, FAR - 1, 0, 2)), (2 + 3 * FAR, ("first", 2)),
            (3 + 3 * FAR, ("typed", 1, 0, 1, 0)), (4 + 3 * FAR, ("first", 3)),
            (1 + 5 * FAR, ("typed", 1, FAR - 1, 1, 0)), (5 * FAR, ("first", FAR + 1)),
        ):
            self.assertEqual(origin(play, (2, FAR, 0), place), due)

    def test_moved_letters(self):
        self.assertEqual(origin([([("left", 1)], FAR)], (FAR + 3, 1, 0), FAR + 3), ("first", FAR + 3))
        self.assertEqual(after([([("left", 1)], FAR)], (FAR + 3, 1, 0)), (3, FAR + 1, 0))
        # Each letter is put behind the one that was right of it: the first one goes to the end.
        play = [([("cut", 1), ("right", 1), ("paste",), ("left", 1)], FAR)]
        self.assertEqual(after(play, (0, FAR + 1, 0)), (FAR, 1, 1))
        self.assertEqual(origin(play, (0, FAR + 1, 0), FAR), ("first", 0))
        for place in (0, 1, 77, FAR // 2, FAR - 1):
            self.assertEqual(origin(play, (0, FAR + 1, 0), place), ("first", place + 1))
        self.assertEqual(clip_origins(play, (0, FAR + 1, 0)), [("first", 0)])

    def test_letters_that_come_back_from_far_on_the_right(self):
        play = [([("left", 1)], FAR), ([("right", 1), ("write", "x")], FAR), ([("left", 3)], FAR)]
        self.assertEqual(after(play, (FAR, 0, 0)), (0, 2 * FAR, 0))
        for place in (0, 2, 1000, FAR, 2 * FAR - 2):
            self.assertEqual(origin(play, (FAR, 0, 0), place), ("first", place // 2))
            self.assertEqual(origin(play, (FAR, 0, 0), place + 1), ("typed", 1, place // 2, 1, 0))

    def test_rubbed_letters(self):
        play = [([("rub", 2), ("strike", 1)], FAR)]
        self.assertEqual(after(play, (2 * FAR + 5, FAR + 4, 3)), (5, 4, 3))
        told = [origin(play, (2 * FAR + 5, FAR + 4, 3), place) for place in range(9)]
        self.assertEqual(told, [("first", place) for place in range(5)]
                         + [("first", 3 * FAR + 5 + place) for place in range(4)])
        self.assertEqual(heirs(play, (2 * FAR + 5, FAR + 4, 3), 5), [])
        self.assertEqual(heirs(play, (2 * FAR + 5, FAR + 4, 3), 4), [4])
        self.assertEqual(heirs(play, (2 * FAR + 5, FAR + 4, 3), 3 * FAR + 8), [8])

    def test_rings(self):
        for many, hand in TURN.items():
            lengths = (4, many + 2, 7)
            for times in (0, 1, 2, many, 10 ** 9, FAR - 7, FAR - 1, FAR):
                self.assertEqual(after([(hand, times)], lengths), (4, many + 2, 1 if times else 7))
                told = [origin([(hand, times)], lengths, place) for place in range(many + 6)]
                ring = [("first", 4 + (at + times) % many) for at in range(many)]
                first = [("first", place) for place in range(many + 6)]
                self.assertEqual(told, first[:4] + ring + first[4 + many:], (many, times))
                self.assertEqual([heirs([(hand, times)], lengths, 4 + (at + times) % many) for at in range(many)],
                                 [[4 + at] for at in range(many)])

    def test_rings_of_one_play_in_two_parts(self):
        hand, other = TURN[3], TURN[5]
        for one, two in ((FAR, FAR), (FAR - 1, FAR - 3), (FAR - 2, 10 ** 9)):
            row = list(range(6))
            row = row[one % 3:3] + row[:one % 3] + row[3:]
            row = row[two % 5:5] + row[:two % 5] + row[5:]
            play = [(hand, one), (other, two)]
            self.assertEqual(all_origins(play, (0, 6, 0)), [("first", place) for place in row])

    def test_prints_of_a_ring(self):
        for many, hand in PRINT.items():
            play = [(hand, FAR)]
            self.assertEqual(after(play, (2, many, 0)), (2 + FAR, many, 1))
            for printed in (0, 1, 2, many - 1, many, many + 1, 12345, FAR // 2, FAR - 2, FAR - 1):
                self.assertEqual(origin(play, (2, many, 0), 2 + printed), ("first", 2 + printed % many), printed)
            self.assertEqual(clip_origins(play, (2, many, 0)), [("first", 2 + (FAR - 1) % many)])

    def test_a_ring_that_once_was_typed(self):
        play = [([("write", "abc"), ("left", 3)], 1), (PRINT[3], FAR - 1), (TURN[2], FAR - 1)]
        for printed in (0, 1, 2, 3, FAR // 2, FAR - 2):
            self.assertEqual(origin(play, (9, 0, 2), 9 + printed), ("typed", 0, 0, 0, printed % 3))
        self.assertEqual([origin(play, (9, 0, 2), 8 + FAR + at) for at in range(3)],
                         [("typed", 0, 0, 0, at) for at in (1, 0, 2)])

    def test_a_play_cut_up_is_the_same(self):
        chance = seeded(45)
        for _ in range(150):
            play = [(light_hand(chance, 60, most_keys=9, most=chance.choice((2, 5, 9))),
                     chance.choice((1, 50, 10 ** 9, FAR, chance.randrange(FAR))))
                    for _ in range(chance.randint(1, 3))]
            lengths = (chance.choice((0, 9, FAR)), chance.choice((0, 9, FAR)), chance.choice((0, 2, 9)))
            cut, parts = cut_up(play, chance)
            there = after(play, lengths)
            self.assertEqual(after(cut, lengths), there)
            asked = [place for place in (0, there[0] - 2, there[0] - 1, there[0], there[0] + 1,
                                         (there[0] + there[1]) // 2, there[0] + there[1] - 1)
                     if 0 <= place < there[0] + there[1]]
            asked += [chance.randrange(there[0] + there[1]) for _ in asked]
            told = clip_origins(play, lengths) + [origin(play, lengths, place) for place in asked]
            other = clip_origins(cut, lengths) + [origin(cut, lengths, place) for place in asked]
            for number, mark in enumerate(other):
                if mark[0] == "typed":
                    part, start = parts[mark[1]]
                    other[number] = ("typed", part, start + mark[2], mark[3], mark[4])
            self.assertEqual(told, other, (play, lengths))

    def test_what_is_told_may_be_handed_in(self):
        play = [([("paste",)] * 60, FAR)] * 12
        lengths = after(play, after(play, (0, 0, 60)))
        self.assertEqual(lengths, (24 * 3600 * FAR, 0, 60))
        self.assertEqual(origin(play, lengths, 24 * 3600 * FAR + 61), ("clip", 1))
        self.assertEqual(origin([([("rub", 60)], FAR)], lengths, 24 * 3540 * FAR), ("first", 24 * 3540 * FAR))


class Refused(unittest.TestCase):
    def test_places_that_are_none(self):
        play, lengths = [([("write", "ab"), ("strike", 1)], 2)], (1, 3, 0)
        self.assertEqual(after(play, lengths), (5, 1, 0))
        for place in (-1, 6, FAR, -FAR, *whole_bad()):
            with self.assertRaises(NoPlace):
                origin(play, lengths, place)
        for place in (-1, 4, 5, FAR, *whole_bad()):
            with self.assertRaises(NoPlace):
                heirs(play, lengths, place)
        self.assertEqual(origin(play, lengths, 5), ("first", 3))
        self.assertEqual(heirs(play, lengths, 3), [5])

    def test_no_places_at_all(self):
        with self.assertRaises(NoPlace):
            origin([([("rub", 5)], 1)], (5, 0, 9), 0)
        with self.assertRaises(NoPlace):
            heirs([([("write", "a")], 1)], (0, 0, 9), 0)
        self.assertEqual(heirs([([("rub", 5)], 1)], (5, 0, 9), 0), [])

    def test_two_thousand_letters_and_one_more(self):
        play = [([("write", "ab")], 900), ([("copy", 1), ("paste",)], 100)]
        self.assertEqual(heirs(play, (50, 50, 0), 50), list(range(1850, 1951)))
        for lengths, place, many in (((51, 50, 0), 51, 2001), ((FAR, FAR, 9), 0, 2 * FAR + 1900)):
            with self.assertRaises(TooMany) as caught:
                heirs(play, lengths, place)
            self.assertEqual(caught.exception.many, many)
        # What there was ahead of a play does not matter.
        self.assertEqual(heirs([([("rub", 1)], FAR)], (FAR, 2000, 0), FAR + 7), [7])
        self.assertEqual(heirs([], (0, 2000, 0), 1999), [1999])
        with self.assertRaises(TooMany):
            heirs([], (0, 2001, 0), 1999)

    def test_what_is_no_play_or_no_lengths(self):
        for ask in ASKS:
            for number, thing in enumerate(NEARLY_PLAYS + anything()):
                with self.assertRaises(NoPlay, msg=number):
                    ask(thing, (1, 1, 1))
            for number, thing in enumerate(nearly_lengths() + anything()):
                with self.assertRaises(NoLengths, msg=number):
                    ask([([("left", 1)], 1)], thing)

    def test_which_goes_first(self):
        many = [([("write", "ab")], 2000)]
        for refused, ask in (
            (NoPlay, lambda: after(None, None)), (NoLengths, lambda: after([], None)),
            (NoPlay, lambda: clip_origins(None, None)), (NoLengths, lambda: clip_origins([], None)),
            (NoPlay, lambda: origin(None, None, None)), (NoPlay, lambda: origin(None, (1, 0, 0), 5)),
            (NoLengths, lambda: origin([], None, None)), (NoPlace, lambda: origin([], (1, 0, 0), None)),
            (NoPlay, lambda: heirs(None, None, None)), (NoPlay, lambda: heirs(None, (1, 0, 0), 0)),
            (NoLengths, lambda: heirs(many, None, None)), (NoPlace, lambda: heirs(many, (1, 0, 0), 1)),
            (NoPlace, lambda: heirs(many, (1, 0, 0), None)), (TooMany, lambda: heirs(many, (1, 0, 0), 0)),
        ):
            with self.assertRaises(refused):
                ask()

    def test_arguments_have_their_names(self):
        for name, due in {
            "is_play": "(thing)", "after": "(play, lengths)", "origin": "(play, lengths, place)",
            "clip_origins": "(play, lengths)", "heirs": "(play, lengths, place)",
        }.items():
            asked = getattr(roads, name)
            self.assertEqual(str(inspect.signature(asked)), due)
            self.assertEqual(asked.__module__, "blindkeys.roads")


class Unchanged(unittest.TestCase):
    def test_lists_and_tuples_are_told_alike_and_nothing_is_changed(self):
        chance = seeded(46)
        for _ in range(25):
            play, lengths = some_play(chance, 3, 4), (chance.randint(1, 5), chance.randint(1, 5), 2)
            there = after(play, lengths)
            asks = [after, clip_origins, lambda play, lengths: is_play(play)]
            if 0 < there[0] + there[1] <= 300:
                asks += [lambda play, lengths: heirs(play, lengths, 0), all_origins]
            for ask in asks:
                told = []
                for form in (lambda thing: thing, as_lists, as_tuples):
                    handed = form(play), form(lengths)
                    kept = frozen(handed)
                    told += [ask(*handed), ask(*handed)]
                    self.assertEqual(handed, kept)
                self.assertEqual(told, [told[0]] * 6)

    def test_the_kinds_of_what_is_told(self):
        play, lengths = [[[["write", "ab"], ["copy", 2], ["paste"]], 2]], [1, 3, 0]
        self.assertIs(type(after(play, lengths)), tuple)
        self.assertIs(type(after([], lengths)), tuple)
        self.assertIs(type(clip_origins(play, lengths)), list)
        self.assertIs(type(heirs(play, lengths, 1)), list)
        for mark in all_origins(play, lengths) + clip_origins(play, lengths):
            self.assertIs(type(mark), tuple)

    def test_a_told_list_is_the_askers_own(self):
        play, lengths = [([("copy", 2), ("paste",)], 3)], (0, 3, 1)
        for ask in (lambda: clip_origins(play, lengths), lambda: heirs(play, lengths, 1)):
            kept = frozen(ask())
            ask().append("x")
            told = ask()
            told.clear()
            self.assertEqual(ask(), kept)


if __name__ == "__main__":
    unittest.main()
