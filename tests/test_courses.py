import inspect
import unittest

from blindkeys import courses
from blindkeys.courses import behind, course, first_cut
from blindkeys.errors import NoHand, NoLengths, NoTimes
from blindkeys.hands import reaches
from marks import ahead_of_each
from things import (
    KINDS, NEARLY_HANDS, anything, as_lists, as_tuples, frozen, light_hand, nearly_lengths, seeded,
    some_hand, whole_bad,
)

FAR = 10 ** 30
# Hands by which short lengths come again by a round that is none: farther lengths are nearer
# to the end in between, and no more so a round later.
FALSE_ROUNDS = [
    ([("cut", 11), ("rub", 5), ("left", 5), ("left", 11), ("write", "aaaa"), ("left", 15),
      ("paste",), ("paste",), ("cut", 5)], (6, 14, 5)),
    ([("right", 6), ("right", 5), ("rub", 13), ("right", 1), ("left", 7), ("left", 9),
      ("paste",), ("paste",), ("paste",), ("cut", 15)], (0, 21, 4)),
    ([("cut", 11), ("rub", 5), ("left", 11), ("rub", 4), ("left", 15), ("paste",),
      ("write", "aa"), ("paste",)], (21, 1, 29)),
]
# Hands whose lengths swing between two for ever, from these lengths on.
SWINGS = [
    ([("cut", 6), ("left", 6), ("paste",), ("paste",), ("rub", 6)], (13, 2, 53)),
    ([("paste",), ("paste",), ("cut", 11), ("left", 5), ("left", 13), ("strike", 10), ("left", 7)], (8, 4, 11)),
    ([("strike", 7), ("paste",), ("cut", 9), ("left", 14), ("paste",)], (3, 1, 24)),
]


def short(lengths, far):
    return min(lengths[0], far[0]), min(lengths[1], far[1]), lengths[2]


def course_in(hand, seen):
    """The course that is seen in so many lengths, the latter half of which go by a round."""
    far = reaches(hand)
    shorts = [short(lengths, far) for lengths in seen]
    half = len(shorts) // 2
    for many in range(1, half // 2):
        first = len(shorts) - many
        while first > 0 and shorts[first - 1] == shorts[first - 1 + many]:
            first -= 1
        if first <= half:
            one, other = seen[first], seen[first + many]
            return first, many, other[0] - one[0], other[1] - one[1]
    return None


def some_lengths(chance, longest):
    return chance.randint(0, longest), chance.randint(0, longest), chance.choice((0, 1, 2, 5, 60))


class Behind(unittest.TestCase):
    def test_letter_by_letter(self):
        chance = seeded(21)
        for _ in range(150):
            hand, lengths = some_hand(chance), some_lengths(chance, 12)
            seen, _ = ahead_of_each(hand, lengths, 25)
            for times, due in enumerate(seen):
                self.assertEqual(behind(hand, lengths, times), due, (hand, lengths, times))

    def test_letter_by_letter_for_long(self):
        chance = seeded(22)
        for _ in range(60):
            hand, lengths = light_hand(chance, 20, most_keys=6, most=3), some_lengths(chance, 150)
            seen, _ = ahead_of_each(hand, lengths, 160)
            for times in (0, 1, 2, 40, 99, 159, 160):
                self.assertEqual(behind(hand, lengths, times), seen[times], (hand, lengths, times))

    def test_no_keys_no_letters_and_no_pressings(self):
        for times in (0, 1, 77, FAR):
            self.assertEqual(behind([], (0, 0, 0), times), (0, 0, 0))
            self.assertEqual(behind([], (FAR, 5, 60), times), (FAR, 5, 60))
        for hand in ([("write", "ab")], [("cut", 3), ("paste",)]):
            self.assertEqual(behind(hand, (4, FAR, 7), 0), (4, FAR, 7))

    def test_far(self):
        for hand, lengths, due in (
            ([("write", "abc")], (0, 0, 0), (3 * FAR, 0, 0)),
            ([("paste",)] * 60, (1, 2, 60), (1 + 3600 * FAR, 2, 60)),
            ([("left", 1)], (FAR, 7, 0), (0, FAR + 7, 0)),
            ([("right", 1)], (7, FAR, 0), (FAR + 7, 0, 0)),
            ([("right", 2)], (7, FAR, 0), (FAR + 7, 0, 0)),
            ([("rub", 1)], (FAR + 5, 0, 2), (5, 0, 2)), ([("rub", 7)], (8 * FAR, 0, 2), (FAR, 0, 2)),
            ([("strike", 1)], (0, FAR + 5, 2), (0, 5, 2)), ([("cut", 7)], (0, FAR, 60), (0, 0, 0)),
            ([("cut", 7)], (0, 8 * FAR, 60), (0, FAR, 7)),
            ([("copy", 7), ("paste",)], (0, 3, 60), (3 * FAR, 3, 3)),
            ([("write", "ab"), ("left", 1), ("rub", 3)], (5, 5, 0), (0, FAR + 5, 0)),
            ([("copy", 5), ("paste",), ("strike", 1)], (0, FAR + 9, 0), (5 * FAR, 9, 5)),
        ):
            self.assertEqual(behind(hand, lengths, FAR), due, hand)

    def test_the_last_letters_of_a_far_side(self):
        for kind, at in (("rub", 0), ("strike", 1)):
            for step in (1, 3, 7):
                for left in (0, 1, 2, 5):
                    lengths = [0, 0, 0]
                    lengths[at] = step * (FAR - 10) + left
                    for times, due in ((FAR - 10, left), (FAR - 11, left + step), (FAR - 9, max(0, left - step))):
                        told = behind([(kind, step)], lengths, times)
                        self.assertEqual(told[at], due)
                        self.assertEqual(sum(told), due)

    def test_a_far_end_is_come_to_just_as_a_near_one(self):
        chance = seeded(23)
        came = 0
        for _ in range(200):
            hand = light_hand(chance, 20, most_keys=6, most=4)
            left, right, held = some_lengths(chance, 9)
            held = behind(hand, (10 ** 6, 10 ** 6, held), 1)[2]
            later = behind(hand, (10 ** 6, 10 ** 6, held), 1)
            near = (left + 60, right + 60, held)
            # So many pressings ahead of these lengths: no key was cut short ever since.
            far = (near[0] - 10 ** 20 * (later[0] - 10 ** 6), near[1] - 10 ** 20 * (later[1] - 10 ** 6), held)
            if max(far) > 10 ** 6 and min(far) >= 0:
                came += 1
                for times in (0, 1, 5, 80):
                    self.assertEqual(behind(hand, far, 10 ** 20 + times), behind(hand, near, times), (hand, near))
        self.assertGreater(came, 30)

    def test_one_pressing_behind_another(self):
        chance = seeded(24)
        for _ in range(200):
            hand = light_hand(chance, 60, most_keys=9, most=chance.choice((2, 5, 9)))
            lengths = (chance.choice((0, 3, 77, FAR)), chance.choice((0, 3, 77, FAR)), chance.randint(0, 60))
            one = chance.choice((0, 1, 30, chance.randrange(10 ** 6), chance.randrange(FAR)))
            other = chance.choice((0, 1, 30, chance.randrange(10 ** 6), FAR - one))
            told = behind(hand, behind(hand, lengths, one), other)
            self.assertEqual(told, behind(hand, lengths, one + other), (hand, lengths, one, other))

    def test_swings(self):
        for hand, lengths in SWINGS:
            seen, _ = ahead_of_each(hand, lengths, 60)
            self.assertNotEqual(seen[-1], seen[-2])
            self.assertEqual(seen[-1], seen[-3])
            for times in (0, 1, 9, 58, 59, 60):
                self.assertEqual(behind(hand, lengths, times), seen[times])
            self.assertEqual(behind(hand, lengths, FAR), seen[60])
            self.assertEqual(behind(hand, lengths, FAR - 1), seen[59])

    def test_what_is_told_may_be_handed_in(self):
        lengths = (0, 0, 60)
        for _ in range(5):
            lengths = behind([("paste",)] * 60, lengths, FAR)
        self.assertEqual(lengths, (5 * 3600 * FAR, 0, 60))
        self.assertIs(type(lengths), tuple)
        self.assertEqual(behind([("left", 60)], lengths, FAR), (17940 * FAR, 60 * FAR, 60))


class Courses(unittest.TestCase):
    def test_ordinary_hands(self):
        for hand, lengths, due in (
            ([], (0, 0, 0), (0, 1, 0, 0)), ([], (FAR, FAR, 60), (0, 1, 0, 0)),
            ([("write", "abc")], (0, 0, 0), (0, 1, 3, 0)), ([("paste",)], (0, 0, 7), (0, 1, 7, 0)),
            ([("rub", 1)], (5, 5, 5), (5, 1, 0, 0)), ([("rub", 2)], (5, 5, 5), (3, 1, 0, 0)),
            ([("strike", 2)], (5, 4, 5), (2, 1, 0, 0)), ([("left", 2)], (4, 0, 0), (2, 1, 0, 0)),
            ([("right", 1)], (0, 3, 0), (3, 1, 0, 0)), ([("copy", 3)], (9, 9, 0), (1, 1, 0, 0)),
            ([("copy", 3)], (9, 9, 3), (0, 1, 0, 0)), ([("copy", 3)], (9, 2, 2), (0, 1, 0, 0)),
            ([("write", "ab"), ("left", 1)], (0, 0, 0), (0, 1, 1, 1)),
            ([("left", 1), ("write", "ab")], (0, 0, 0), (1, 1, 1, 1)),
            ([("left", 2), ("write", "a")], (0, 0, 0), (1, 1, 0, 1)),
            ([("copy", 2), ("paste",), ("right", 1)], (0, 4, 9), (5, 1, 0, 0)),
            ([("cut", 1), ("right", 2), ("paste",), ("left", 2)], (7, 2, 1), (0, 1, 0, 0)),
        ):
            self.assertEqual(course(hand, lengths), due, (hand, lengths))
            self.assertIs(type(course(as_lists(hand), list(lengths))), tuple)

    def test_far_firsts(self):
        for hand, lengths, due in (
            ([("rub", 1)], (FAR, 0, 0), (FAR, 1, 0, 0)), ([("rub", 1)], (FAR, FAR, 9), (FAR, 1, 0, 0)),
            ([("rub", 7)], (7 * FAR, 0, 0), (FAR, 1, 0, 0)), ([("rub", 7)], (7 * FAR + 1, 0, 0), (FAR + 1, 1, 0, 0)),
            ([("strike", 3)], (5, 3 * FAR, 0), (FAR, 1, 0, 0)), ([("right", 2)], (5, 2 * FAR, 0), (FAR, 1, 0, 0)),
            ([("left", 1)], (FAR, 0, 0), (FAR, 1, 0, 0)),
            ([("copy", 1), ("left", 1), ("paste",), ("rub", 1)], (FAR, 1, 1), (FAR, 1, 0, 0)),
            ([("write", "a"), ("rub", 2), ("write", "ab")], (FAR, 0, 0), (0, 1, 1, 0)),
            ([("left", 1), ("write", "ab"), ("left", 2)], (FAR, 0, 0), (FAR, 1, 0, 2)),
        ):
            self.assertEqual(course(hand, lengths), due, (hand, lengths))

    def test_letter_by_letter(self):
        chance = seeded(25)
        laters = 0
        for _ in range(250):
            hand, lengths = light_hand(chance, 25, most_keys=7, most=4), some_lengths(chance, 20)
            # Some come to their round only after hundreds of pressings.
            due = course_in(hand, ahead_of_each(hand, lengths, 120)[0])
            due = due or course_in(hand, ahead_of_each(hand, lengths, 900)[0])
            laters += due[0] > 0
            self.assertEqual(course(hand, lengths), due, (hand, lengths))
        self.assertGreater(laters, 60)
        self.assertLess(laters, 250)

    def test_swings(self):
        for hand, lengths in SWINGS:
            due = course_in(hand, ahead_of_each(hand, lengths, 60)[0])
            self.assertEqual(due[1:], (2, 0, 0))
            self.assertEqual(course(hand, lengths), due)
            self.assertEqual(course(hand, behind(hand, lengths, FAR)), (0, 2, 0, 0))

    def test_rounds_that_are_none(self):
        for hand, lengths in FALSE_ROUNDS:
            seen, _ = ahead_of_each(hand, lengths, 60)
            self.assertEqual(course(hand, lengths), course_in(hand, seen))
            for times, due in enumerate(seen):
                self.assertEqual(behind(hand, lengths, times), due)

    def test_swings_far_from_one_end(self):
        # The left side only gains, however the right side and the clip swing.
        hand, lengths = SWINGS[0]
        hand = [("write", "ab" * 12), ("left", 1), ("right", 1)] + hand
        seen, _ = ahead_of_each(hand, (50, 2, 53), 200)
        self.assertEqual(course(hand, (50, 2, 53)), course_in(hand, seen))

    def test_what_a_course_means(self):
        chance = seeded(26)
        for _ in range(200):
            hand = light_hand(chance, 60, most_keys=9, most=chance.choice((2, 5, 9)))
            lengths = (chance.choice((0, 3, 77, FAR)), chance.choice((0, 3, 77, FAR)), chance.randint(0, 60))
            first, many, lefts, rights = course(hand, lengths)
            far = reaches(hand)
            told = behind(hand, lengths, min(first, FAR))
            if first <= FAR:
                later = told
                for _ in range(many):
                    later = behind(hand, later, 1)
                self.assertEqual(later, (told[0] + lefts, told[1] + rights, told[2]))
                self.assertEqual(short(later, far), short(told, far))
                far_on = behind(hand, told, many * 10 ** 9)
                self.assertEqual(far_on, (told[0] + lefts * 10 ** 9, told[1] + rights * 10 ** 9, told[2]))
            if 0 < first <= FAR:
                ahead = behind(hand, lengths, first - 1)
                self.assertNotEqual(short(ahead, far), short(behind(hand, ahead, many), far))

    def test_a_course_further_on(self):
        chance = seeded(27)
        for _ in range(100):
            hand = light_hand(chance, 60, most_keys=7, most=5)
            lengths = (chance.choice((0, 9, FAR)), chance.choice((0, 9, FAR)), chance.randint(0, 9))
            first, many, lefts, rights = course(hand, lengths)
            for times in (1, 2, min(first, FAR)):
                told = course(hand, behind(hand, lengths, times))
                self.assertEqual(told, (max(0, first - times), many, lefts, rights))


class FirstCuts(unittest.TestCase):
    def test_ordinary_hands(self):
        for hand, lengths, due in (
            ([], (0, 0, 0), None), ([("write", "a"), ("paste",)], (0, 0, 60), None),
            ([("left", 1)], (0, 5, 0), (0, 0)), ([("rub", 1)], (0, 5, 0), (0, 0)),
            ([("right", 1)], (5, 0, 0), (0, 0)), ([("strike", 1)], (5, 0, 0), (0, 0)),
            ([("copy", 1)], (5, 0, 0), (0, 0)), ([("cut", 1)], (5, 0, 0), (0, 0)),
            ([("copy", 5)], (5, 4, 0), (0, 0)), ([("copy", 5)], (5, 5, 0), None),
            ([("left", 3), ("paste",), ("copy", 5)], (3, 9, 0), (1, 0)),
            ([("left", 9), ("paste",), ("copy", 5)], (9, 9, 0), (1, 0)),
            ([("strike", 3), ("paste",), ("left", 9), ("cut", 4)], (9, 9, 0), (1, 2)),
            ([("right", 3), ("paste",), ("left", 9), ("copy", 4)], (9, 3, 0), (2, 2)),
            ([("left", 3)], (3, 0, 0), (1, 0)), ([("left", 3)], (4, 0, 0), (1, 0)), ([("left", 3)], (6, 0, 0), (2, 0)),
            ([("write", "a"), ("left", 2), ("right", 1), ("cut", 2)], (2, 0, 0), (0, 3)),
            ([("right", 1), ("left", 1)], (0, 1, 0), None), ([("left", 1), ("right", 1)], (0, 1, 0), (0, 0)),
            ([("write", "ab"), ("rub", 3)], (10, 0, 0), (10, 1)), ([("write", "ab"), ("rub", 2)], (0, 0, 0), None),
            ([("paste",), ("rub", 4)], (9, 0, 3), (9, 1)), ([("paste",), ("rub", 4)], (9, 0, 4), None),
            ([("paste",), ("rub", 4), ("copy", 3)], (9, 5, 60), (66, 1)),
            ([("copy", 2), ("paste",), ("strike", 1)], (0, 5, 0), (4, 0)),
            ([("strike", 3), ("rub", 3)], (9, 9, 0), (3, 0)), ([("rub", 3), ("strike", 3)], (9, 9, 0), (3, 0)),
            ([("rub", 3), ("strike", 3)], (12, 9, 0), (3, 1)), ([("rub", 3), ("strike", 3)], (9, 12, 0), (3, 0)),
        ):
            self.assertEqual(first_cut(hand, lengths), due, (hand, lengths))

    def test_far(self):
        for hand, lengths, due in (
            ([("rub", 1)], (FAR, 0, 0), (FAR, 0)), ([("strike", 2)], (0, FAR, 0), (FAR // 2, 0)),
            ([("write", "a"), ("rub", 8)], (7 * FAR - 1, 0, 0), (FAR - 1, 1)),
            ([("write", "a"), ("rub", 8)], (7 * FAR + 7, 0, 0), (FAR + 1, 1)),
            ([("right", 1), ("copy", 60 - 1)], (0, FAR + 58, 0), (FAR - 1, 1)),
            ([("left", 1), ("strike", 1)], (FAR, 0, 0), (FAR, 0)), ([("write", "a")] * 9, (0, 0, 0), None),
            ([("rub", 1), ("strike", 1)], (FAR, FAR, 0), (FAR, 0)),
            ([("rub", 1), ("strike", 1)], (FAR + 1, FAR, 0), (FAR, 1)),
        ):
            self.assertEqual(first_cut(hand, lengths), due, (hand, lengths))

    def test_letter_by_letter(self):
        chance = seeded(28)
        seen_in = {"none": 0, "first": 0, "second": 0, "later": 0}
        for _ in range(500):
            hand, lengths = light_hand(chance, 25, most_keys=6, most=3), some_lengths(chance, 30)
            _, due = ahead_of_each(hand, lengths, 95)
            told = first_cut(hand, lengths)
            seen_in["none" if due is None else ("first", "second", "later")[min(due[0], 2)]] += 1
            if due is None and told is not None:
                self.assertGreaterEqual(told[0], 95)
            else:
                self.assertEqual(told, due, (hand, lengths))
                self.assertIn(type(told), (tuple, type(None)))
        self.assertGreater(min(seen_in.values()), 5)

    def test_ahead_of_the_first_cut_all_is_told_by_one_gain(self):
        chance = seeded(29)
        for _ in range(100):
            hand = light_hand(chance, 30, most_keys=6, most=4)
            lengths = (FAR + chance.randint(0, 99), FAR + chance.randint(0, 99), chance.randint(0, 9))
            told = first_cut(hand, lengths)
            if told is None:
                first, many, _, _ = course(hand, lengths)
                self.assertLessEqual(first, 1)
                self.assertEqual(many, 1)
            elif 0 < told[0] <= FAR:
                # More letters than these are not come to by two pressings of such a hand.
                left, right, held = behind(hand, lengths, told[0] - 1)
                ahead = (min(left, 200), min(right, 200), held)
                self.assertEqual(ahead_of_each(hand, ahead, 2)[1], (1, told[1]))


class Refused(unittest.TestCase):
    def test_times_that_are_none(self):
        for times in (-1, FAR + 1, -FAR, 10 ** 39, *whole_bad()):
            with self.assertRaises(NoTimes):
                behind([], (0, 0, 0), times)
        self.assertEqual(behind([], (0, 0, 0), FAR), (0, 0, 0))

    def test_what_is_no_lengths_or_no_hand(self):
        for ask in (course, first_cut, lambda hand, lengths: behind(hand, lengths, 1)):
            for number, thing in enumerate(nearly_lengths() + anything()):
                with self.assertRaises(NoLengths, msg=number):
                    ask([("left", 1)], thing)
            for number, thing in enumerate(NEARLY_HANDS + anything()):
                with self.assertRaises(NoHand, msg=number):
                    ask(thing, (1, 1, 1))

    def test_which_goes_first(self):
        for refused, ask in (
            (NoHand, lambda: behind(None, None, None)), (NoHand, lambda: behind(None, (0, 0, 0), -1)),
            (NoLengths, lambda: behind([], None, None)), (NoTimes, lambda: behind([], (0, 0, 0), None)),
            (NoHand, lambda: course(None, None)), (NoLengths, lambda: course([], None)),
            (NoHand, lambda: first_cut(None, None)), (NoLengths, lambda: first_cut([], None)),
        ):
            with self.assertRaises(refused):
                ask()

    def test_arguments_have_their_names(self):
        for name, due in {
            "behind": "(hand, lengths, times)", "course": "(hand, lengths)", "first_cut": "(hand, lengths)",
        }.items():
            asked = getattr(courses, name)
            self.assertEqual(str(inspect.signature(asked)), due)
            self.assertEqual(asked.__module__, "blindkeys.courses")


class Unchanged(unittest.TestCase):
    def test_lists_and_tuples_are_told_alike_and_nothing_is_changed(self):
        chance = seeded(30)
        for _ in range(30):
            hand = [(kind, 1) for kind in KINDS[:chance.randint(0, 6)]] + some_hand(chance)
            lengths = some_lengths(chance, 40)
            for ask in (course, first_cut, lambda one, by: behind(one, by, 0), lambda one, by: behind(one, by, FAR)):
                told = []
                for form in (lambda thing: thing, as_lists, as_tuples):
                    handed = form(hand), form(lengths)
                    kept = frozen(handed)
                    told += [ask(*handed), ask(*handed)]
                    self.assertEqual(handed, kept)
                self.assertEqual(told, [told[0]] * 6)
                self.assertIn(type(told[2]), (tuple, type(None)))


if __name__ == "__main__":
    unittest.main()
