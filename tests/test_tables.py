import inspect
import unittest
from itertools import product

from blindkeys import tables
from blindkeys.errors import NoHand, NoLengths, TooMany
from blindkeys.hands import weight
from blindkeys.tables import parting, table
from marks import by_sources
from things import (
    KINDS, NEARLY_HANDS, anything, as_lists, as_tuples, frozen, light_hand, nearly_lengths, seeded,
    some_hand,
)


def with_marks(hand, lengths):
    told = by_sources(lengths)
    told.press(hand)
    return told.rows()


def with_letters(hand, lengths):
    """The table by going key by key, with the letters themselves for what was typed."""
    return tuple([hand[mark[1]][1][mark[2]] if mark[0] == "typed" else mark for mark in row]
                 for row in with_marks(hand, lengths))


def parting_one_by_one(hand, other, lefts, rights, helds):
    every = product(range(lefts + 1), range(rights + 1), range(helds + 1))
    for lengths in sorted(every, key=lambda lengths: (sum(lengths), lengths)):
        if with_letters(hand, lengths) != with_letters(other, lengths):
            return lengths
    return None


def otherwise(hand, chance):
    """The same hand, written otherwise."""
    keys = []
    for key in hand:
        if chance.random() < 0.3:
            keys += [("write", "pq"), ("rub", 1), ("rub", 1)]
        if key[0] in ("left", "right", "strike", "rub") and key[1] > 1:
            first = chance.randint(1, key[1] - 1)
            keys += [(key[0], first), (key[0], key[1] - first)]
        elif key[0] == "write":
            keys += [("write", sign) for sign in key[1]]
        else:
            keys.append(key)
    return keys


class Told(unittest.TestCase):
    def test_each_key(self):
        left = [("left", 0), ("left", 1), ("left", 2)]
        right = [("right", 0), ("right", 1), ("right", 2)]
        clip = [("clip", 0), ("clip", 1)]
        for key, due in (
            (("left", 2), (left[2:], [left[1], left[0]] + right, clip)),
            (("right", 2), ([right[1], right[0]] + left, right[2:], clip)),
            (("strike", 2), (left, right[2:], clip)),
            (("rub", 2), (left[2:], right, clip)),
            (("copy", 2), (left, right, right[:2])),
            (("cut", 2), (left, right[2:], right[:2])),
            (("write", "pqp"), ([("typed", 0, 2), ("typed", 0, 1), ("typed", 0, 0)] + left, right, clip)),
            (("paste",), ([clip[1], clip[0]] + left, right, clip)),
        ):
            self.assertEqual(table([key], (3, 3, 2)), due, key)

    def test_typed_letters_are_told_by_the_keys_number(self):
        hand = [("left", 1), ("write", "ab"), ("paste",), ("write", "c"), ("left", 2), ("copy", 2)]
        self.assertEqual(table(hand, (0, 0, 1)), (
            [("typed", 1, 1), ("typed", 1, 0)], [("clip", 0), ("typed", 3, 0)],
            [("clip", 0), ("typed", 3, 0)],
        ))

    def test_no_keys_and_no_letters(self):
        self.assertEqual(table([], (0, 0, 0)), ([], [], []))
        self.assertEqual(table((), [1, 2, 1]), ([("left", 0)], [("right", 0), ("right", 1)], [("clip", 0)]))
        self.assertEqual(table([("cut", 3), ("paste",), ("rub", 2)], (0, 0, 2)), ([], [], []))

    def test_with_marks_near_both_ends(self):
        chance = seeded(11)
        for _ in range(60):
            hand = some_hand(chance)
            for lengths in product((0, 1, 2, 5), (0, 1, 3, 6), (0, 1, 3)):
                self.assertEqual(table(hand, lengths), with_marks(hand, lengths), (hand, lengths))

    def test_with_marks_far_from_both_ends_and_by_every_clip(self):
        chance = seeded(12)
        for held in range(61):
            hand = light_hand(chance, 60, most_keys=12, most=9)
            for lengths in ((200, 200, held), (61, 0, held), (0, 61, held), (33, 47, held)):
                self.assertEqual(table(hand, lengths), with_marks(hand, lengths), (hand, lengths))

    def test_the_heaviest_hands(self):
        for hand in ([("paste",)] * 60, [("write", "ab" * 30)], [("cut", 59), ("paste",)],
                     [(kind, 10) for kind in KINDS], *[[(kind, 60)] for kind in KINDS]):
            for lengths in ((0, 0, 60), (59, 59, 1), (60, 60, 60), (200, 200, 60)):
                self.assertEqual(table(hand, lengths), with_marks(hand, lengths))

    def test_what_a_short_hand_keeps_of_two_hundred(self):
        lefts, rights, clips = table([("write", "x")], (200, 200, 0))
        self.assertEqual(lefts, [("typed", 0, 0)] + [("left", deep) for deep in range(200)])
        self.assertEqual(rights, [("right", deep) for deep in range(200)])
        self.assertEqual(clips, [])

    def test_the_kinds_of_what_is_told(self):
        told = table([["write", "ab"], ["paste"], ["left", 1], ["copy", 1]], [2, 2, 2])
        self.assertIs(type(told), tuple)
        self.assertEqual([type(row) for row in told], [list] * 3)
        for row in told:
            for source in row:
                self.assertIs(type(source), tuple)

    def test_a_told_list_is_the_askers_own(self):
        hand, lengths = [["copy", 2], ["paste"], ["write", "ab"]], [3, 3, 2]
        kept = frozen(table(hand, lengths))
        told = table(hand, lengths)
        for row in told:
            row.clear()
        self.assertEqual(told, ([], [], []))
        told = table(hand, lengths)
        told[2].append("x")
        self.assertEqual(told[:2], kept[:2])
        told[0].reverse()
        self.assertEqual(told[1], kept[1])
        self.assertEqual(table(hand, lengths), kept)
        self.assertEqual((hand, lengths), ([["copy", 2], ["paste"], ["write", "ab"]], [3, 3, 2]))


class Parting(unittest.TestCase):
    def test_hands_that_do_alike(self):
        for hand, other in (
            ([], []), ([("left", 3)], [("left", 1), ("left", 2)]),
            ([("right", 3)], [("right", 2), ("right", 1)]), ([("rub", 3)], [("rub", 1)] * 3),
            ([("strike", 4)], [("strike", 2)] * 2), ([("write", "abc")], [("write", "ab"), ("write", "c")]),
            ([("write", "ab")], [("write", "abc"), ("rub", 1)]), ([], [("write", "pq"), ("rub", 2)]),
            ([("cut", 2)], [("copy", 2), ("strike", 2)]), ([("cut", 2)], [("copy", 5), ("cut", 2)]),
            ([("left", 24)], [("left", 12)] * 2), ([("strike", 24)], [("strike", 1)] * 24),
            ([("right", 1), ("rub", 1)], [("write", "x"), ("right", 1), ("rub", 1), ("rub", 1)]),
        ):
            due = parting_one_by_one(hand, other, 3, 3, 3)
            self.assertEqual(parting(hand, other), due, (hand, other))
            self.assertEqual(parting(other, hand), due, (hand, other))
            self.assertIs(parting(hand, hand), None)
            self.assertIs(parting(other, as_lists(other)), None)
        self.assertIs(parting([("right", 3)], [("right", 2), ("right", 1)]), None)
        self.assertIs(parting([("write", "ab")], [("write", "abc"), ("rub", 1)]), None)
        self.assertIs(parting([("cut", 2)], [("copy", 5), ("cut", 2)]), None)

    def test_hands_that_part(self):
        for hand, other, due in (
            ([], [("write", "a")], (0, 0, 0)), ([("write", "ab")], [("write", "ba")], (0, 0, 0)),
            ([], [("paste",)], (0, 0, 1)), ([], [("left", 1)], (1, 0, 0)), ([], [("rub", 9)], (1, 0, 0)),
            ([], [("right", 1)], (0, 1, 0)), ([], [("strike", 1)], (0, 1, 0)),
            ([], [("copy", 1)], (0, 0, 1)), ([("strike", 2)], [("cut", 2)], (0, 0, 1)),
            ([("copy", 2)], [("cut", 2)], (0, 1, 0)), ([("copy", 2)], [("copy", 3)], (0, 3, 0)),
            ([], [("left", 1), ("right", 1)], (0, 1, 0)), ([], [("right", 1), ("left", 1)], (1, 0, 0)),
            ([("left", 24)], [("left", 23)], (24, 0, 0)), ([("right", 24)], [("right", 23)], (0, 24, 0)),
            ([("rub", 2), ("rub", 2)], [("rub", 3)], (4, 0, 0)),
            ([("left", 24)], [("strike", 24)], (0, 1, 0)),
            ([("paste",), ("rub", 23)], [("paste",), ("rub", 22)], (0, 0, 23)),
            ([("paste",), ("paste",), ("rub", 22)], [("paste",), ("paste",), ("rub", 21)], (0, 0, 11)),
        ):
            self.assertEqual(parting(hand, other), due, (hand, other))
            self.assertEqual(parting(other, hand), due, (hand, other))
            self.assertIs(type(parting(as_lists(hand), as_tuples(other))), tuple)

    def test_the_first_as_tuples_of_the_fewest_letters(self):
        # Each pair parts by several lengths of as many letters.
        for hand, other in (
            ([("paste",), ("left", 1)], [("paste",)]), ([("rub", 1), ("strike", 1)], []),
            ([("cut", 1), ("paste",)], [("rub", 1)]), ([("left", 2), ("strike", 3)], [("left", 2), ("strike", 4)]),
            ([("right", 1), ("paste",), ("rub", 3)], [("right", 1), ("paste",), ("rub", 4)]),
        ):
            self.assertEqual(parting(hand, other), parting_one_by_one(hand, other, 6, 6, 6))
        self.assertEqual(parting([("left", 2), ("strike", 3)], [("left", 2), ("strike", 4)]), (0, 4, 0))
        self.assertEqual(
            parting([("right", 1), ("paste",), ("rub", 3)], [("right", 1), ("paste",), ("rub", 4)]), (0, 0, 4))

    def test_one_by_one(self):
        chance = seeded(13)
        parted = 0
        for _ in range(150):
            hand = light_hand(chance, 5, most_keys=4, most=3)
            other = light_hand(chance, 5, most_keys=4, most=3) if chance.random() < 0.5 else list(hand)
            if other and chance.random() < 0.7:
                other[chance.randrange(len(other))] = (chance.choice(KINDS), 1)
            due = parting_one_by_one(hand, other, 6, 6, 6)
            parted += due is not None
            self.assertEqual(parting(hand, other), due, (hand, other))
        self.assertGreater(parted, 30)

    def test_written_otherwise(self):
        chance = seeded(14)
        for _ in range(40):
            hand = light_hand(chance, 10, most_keys=4, most=5)
            other = otherwise(hand, chance)
            if weight(other) <= 24:
                self.assertIs(parting(hand, other), None, (hand, other))

    def test_no_longer_lengths_part_what_no_shorter_ones_do(self):
        chance = seeded(15)
        for _ in range(25):
            hand = light_hand(chance, 10, most_keys=4, most=5)
            other = otherwise(hand, chance)
            for lengths in ((200, 200, 60), (0, 0, 60), (24, 25, 25), (200, 0, 59), (0, 200, 31)):
                self.assertEqual(with_letters(hand, lengths), with_letters(other, lengths))


class Refused(unittest.TestCase):
    def test_two_hundred_and_one_more(self):
        for lengths in ((200, 200, 60), (200, 0, 0), (0, 200, 0)):
            self.assertEqual([len(row) for row in table([], lengths)], list(lengths))
        for lengths in ((201, 0, 0), (0, 201, 0), (201, 201, 60), (10 ** 30, 0, 0), (0, 10 ** 39, 0)):
            with self.assertRaises(NoLengths):
                table([], lengths)

    def test_what_is_no_lengths(self):
        for number, thing in enumerate(nearly_lengths() + anything()):
            with self.assertRaises(NoLengths, msg=number):
                table([], thing)

    def test_what_is_no_hand(self):
        for number, thing in enumerate(NEARLY_HANDS + anything()):
            for ask in (lambda: table(thing, (1, 1, 1)), lambda: parting(thing, []), lambda: parting([], thing)):
                with self.assertRaises(NoHand, msg=number):
                    ask()

    def test_weights_of_twenty_four_and_one_more(self):
        light, heavy, heavier = [("left", 24)], [("write", "a" * 25)], [("cut", 59), ("paste",)]
        self.assertIs(parting(light, light), None)
        for hand, other, many in (
            (light, heavy, 25), (heavy, light, 25), (heavy, heavier, 25), (heavier, heavy, 60),
            (heavy, heavy, 25), ([], heavier, 60), ([("paste",)] * 25, [], 25),
        ):
            with self.assertRaises(TooMany) as caught:
                parting(hand, other)
            self.assertEqual(caught.exception.many, many)

    def test_which_goes_first(self):
        heavy = [("left", 25)]
        for refused, ask in (
            (NoHand, lambda: table(None, None)), (NoHand, lambda: table(None, (201, 0, 0))),
            (NoLengths, lambda: table([], None)), (NoHand, lambda: parting(None, heavy)),
            (NoHand, lambda: parting(heavy, None)), (NoHand, lambda: parting(None, None)),
            (TooMany, lambda: parting(heavy, [])),
        ):
            with self.assertRaises(refused):
                ask()

    def test_arguments_have_their_names(self):
        self.assertEqual(str(inspect.signature(table)), "(hand, lengths)")
        self.assertEqual(str(inspect.signature(parting)), "(hand, other)")
        for name in ("table", "parting"):
            self.assertEqual(getattr(tables, name).__module__, "blindkeys.tables")


class Unchanged(unittest.TestCase):
    def test_lists_and_tuples_are_told_alike_and_nothing_is_changed(self):
        chance = seeded(16)
        for _ in range(20):
            hand = light_hand(chance, 24, most_keys=5, most=3)
            other = light_hand(chance, 24, most_keys=5, most=3)
            lengths = (chance.randint(0, 9), chance.randint(0, 9), chance.randint(0, 4))
            for ask in (lambda one, two, by: table(one, by), lambda one, two, by: parting(one, two)):
                told = []
                for form in (lambda thing: thing, as_lists, as_tuples):
                    handed = form(hand), form(other), form(lengths)
                    kept = frozen(handed)
                    told += [ask(*handed), ask(*handed)]
                    self.assertEqual(handed, kept)
                self.assertEqual(told, [told[0]] * 6)


if __name__ == "__main__":
    unittest.main()
