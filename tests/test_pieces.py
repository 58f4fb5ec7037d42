import inspect
import unittest

from blindkeys import pieces
from blindkeys.errors import NoLetter, NoNumber, NoPlace, NoText
from blindkeys.pieces import count, first_unlike, is_text, length, letter, looks, nth
from things import anything, as_lists, as_tuples, frozen, seeded, whole_bad

MOST = 10 ** 30
# Read as texts these are wrong in one thing only.
NEARLY_TEXTS = [
    [("a", 0)], [("a", -1)], [("a", True)], [("a", False)], [("a", None)], [("a", "1")],
    [("a", 1.0)], [("", 1)], [("A", 1)], [("a b", 1)], [("a\n", 1)], [("\na", 1)], [("a-a", 1)],
    [("a1", 1)], [("\u00e4", 1)], [("a\u00e4a", 1)], [("\u00df", 1)], [("a" * 61, 1)], [(b"a", 1)],
    [("a",)], [("a", 1, 1)], [()], [(1, "a")], [(["a"], 1)], [("a", 1), None], [("a", 1), "a"],
    [("a", 1)] * 41, [("a", MOST + 1)], [("a", MOST), ("b", 1)], [("ab", MOST // 2), ("b", 1)],
    [("a", 10 ** 6000)], {"a": 1}, {("a", 1): 1}, "a", "", None, 0, True, [["a", 1], ["a"]],
    {("a", 1)}, iter([("a", 1)]), [{"a": 1}], [[[], 1]],
]
SIGN_BAD = [None, True, 0, "", "A", "ab", "aa", "1", " ", "-", "\n", "\u00e4", b"a", ["a"], {}]


def written(text):
    return "".join(word * times for word, times in text)


def some_text(chance, most=6):
    return [
        ("".join(chance.choice("ab" if chance.random() < 0.8 else "abz")
                 for _ in range(chance.randint(1, 5))), chance.randint(1, 4))
        for _ in range(chance.randint(0, most))
    ]


def plain_first_unlike(one, other):
    if one == other:
        return None
    at = 0
    while at < min(len(one), len(other)) and one[at] == other[at]:
        at += 1
    return at


class Texts(unittest.TestCase):
    def test_ordinary_texts(self):
        for text in ([], (), [("a", 1)], [("abc", 3), ("z", 1)], [("a", 1), ("a", 1)]):
            self.assertIs(is_text(text), True)
            self.assertIs(is_text(as_lists(text)), True)
            self.assertIs(is_text(as_tuples(text)), True)

    def test_every_letter_is_one(self):
        self.assertIs(is_text([("abcdefghijklmnopqrstuvwxyz", 1)]), True)

    def test_every_other_sign_is_none(self):
        for number in (*range(97), *range(123, 400)):
            self.assertIs(is_text([("a" + chr(number) + "a", 1)]), False, number)

    def test_forty_pieces_and_one_more(self):
        self.assertIs(is_text([("a", 1)] * 40), True)
        self.assertIs(is_text([("a", 1)] * 41), False)

    def test_sixty_letters_and_one_more(self):
        self.assertIs(is_text([("a" * 60, 1)]), True)
        self.assertIs(is_text([("a" * 61, 1)]), False)

    def test_times_from_one_on(self):
        self.assertIs(is_text([("a", 1)]), True)
        self.assertIs(is_text([("a", 0)]), False)
        self.assertIs(is_text([("a", -3)]), False)

    def test_most_letters_and_one_more(self):
        for text in ([("a", MOST)], [("ab", MOST // 2)], [("a", MOST - 1), ("b", 1)],
                     [("abcde", MOST // 10), ("z", MOST // 2)]):
            self.assertIs(is_text(text), True)
            self.assertEqual(length(text), MOST)
            self.assertIs(is_text(text + [("c", 1)]), False)
        self.assertIs(is_text([("a", MOST + 1)]), False)

    def test_nearly_texts_are_none(self):
        for number, thing in enumerate(NEARLY_TEXTS):
            self.assertIs(is_text(thing), False, number)

    def test_anything_is_answered(self):
        for number, thing in enumerate(anything()):
            self.assertIs(is_text(thing), False, number)

    def test_what_is_no_text_is_refused_everywhere(self):
        asked = (
            lambda thing: length(thing), lambda thing: letter(thing, 0),
            lambda thing: looks(thing, 0, 0), lambda thing: count(thing, "a", 0),
            lambda thing: nth(thing, "a", 0), lambda thing: first_unlike(thing, []),
            lambda thing: first_unlike([], thing),
        )
        for ask in asked:
            for number, thing in enumerate(NEARLY_TEXTS + anything()):
                with self.assertRaises(NoText, msg=number):
                    ask(thing)


class Told(unittest.TestCase):
    def setUp(self):
        chance = seeded(1)
        self.texts = [[], [("a", 1)], [("ab", 3)]] + [some_text(chance) for _ in range(60)]

    def test_length(self):
        self.assertEqual(length([]), 0)
        self.assertEqual(length([("abc", 2), ("z", 1)]), 7)
        for text in self.texts:
            self.assertEqual(length(text), len(written(text)))

    def test_letter(self):
        for text in self.texts:
            plain = written(text)
            self.assertEqual("".join(letter(text, at) for at in range(len(plain))), plain)

    def test_looks(self):
        for text in self.texts[:25]:
            plain = written(text)
            for place in range(len(plain) + 1):
                for many in (0, 1, 2, 3, 5, 7, len(plain), len(plain) + 9, 2000):
                    self.assertEqual(looks(text, place, many), plain[place:place + many])

    def test_looks_at_most_two_thousand(self):
        text = [("abc", 1000), ("xy", 10 ** 20)]
        plain = written([("abc", 1000), ("xy", 1000)])
        for place in (0, 1, 1500, 2999, 3000):
            self.assertEqual(looks(text, place, 2000), plain[place:place + 2000])

    def test_count(self):
        for text in self.texts:
            plain = written(text)
            for many in range(len(plain) + 1):
                for sign in "abzq":
                    self.assertEqual(count(text, sign, many), plain[:many].count(sign))

    def test_nth(self):
        for text in self.texts:
            plain = written(text)
            for sign in "abzq":
                places = [at for at, here in enumerate(plain) if here == sign]
                for number in range(len(places) + 3):
                    due = places[number] if number < len(places) else None
                    self.assertEqual(nth(text, sign, number), due)

    def test_first_unlike(self):
        for one in self.texts:
            for other in self.texts:
                due = plain_first_unlike(written(one), written(other))
                self.assertEqual(first_unlike(one, other), due)

    def test_texts_of_no_pieces(self):
        self.assertEqual(looks([], 0, 5), "")
        self.assertEqual(count([], "a", 0), 0)
        self.assertIsNone(nth([], "a", 0))
        self.assertIsNone(first_unlike([], ()))
        self.assertEqual(first_unlike([], [("a", 1)]), 0)
        self.assertEqual(first_unlike([("a", 1)], []), 0)

    def test_one_ends_where_the_other_goes_on(self):
        self.assertEqual(first_unlike([("ab", 2)], [("ab", 3)]), 4)
        self.assertEqual(first_unlike([("ab", 3)], [("ab", 2)]), 4)
        self.assertEqual(first_unlike([("a", MOST)], [("a", MOST - 1)]), MOST - 1)

    def test_one_text_by_other_pieces(self):
        one = [("ab", 6), ("c", 2)]
        for other in ([("abab", 3), ("cc", 1)], [("a", 1), ("ba", 5), ("bcc", 1)],
                      [("ababab", 2), ("c", 1), ("c", 1)]):
            self.assertIsNone(first_unlike(one, other))
            self.assertIsNone(first_unlike(other, one))
            self.assertEqual(length(other), length(one))
            for number in range(8):
                self.assertEqual(nth(other, "b", number), nth(one, "b", number))

    def test_arguments_have_their_names(self):
        for name, due in {
            "is_text": "(thing)", "length": "(text)", "letter": "(text, place)",
            "looks": "(text, place, many)", "count": "(text, sign, many)",
            "nth": "(text, sign, number)", "first_unlike": "(text, other)",
        }.items():
            asked = getattr(pieces, name)
            self.assertEqual(str(inspect.signature(asked)), due)
            self.assertEqual(asked.__module__, "blindkeys.pieces")


class Great(unittest.TestCase):
    TEXT = [("abc", 10 ** 29), ("z", 5), ("ba", 3 * 10 ** 29)]
    TURN = 3 * 10 ** 29

    def test_length(self):
        self.assertEqual(length(self.TEXT), 9 * 10 ** 29 + 5)
        self.assertEqual(length([("a", MOST)]), MOST)

    def test_letter(self):
        turn = self.TURN
        told = [letter(self.TEXT, place) for place in (
            turn - 2, turn - 1, turn, turn + 4, turn + 5, turn + 6, 9 * 10 ** 29 + 4)]
        self.assertEqual(told, ["b", "c", "z", "z", "b", "a", "a"])

    def test_looks(self):
        turn = self.TURN
        self.assertEqual(looks(self.TEXT, turn - 4, 14), "cabczzzzzbabab")
        self.assertEqual(looks(self.TEXT, 9 * 10 ** 29, 60), "ababa"[-5:])
        self.assertEqual(looks(self.TEXT, 9 * 10 ** 29 + 5, 60), "")

    def test_count(self):
        turn = self.TURN
        self.assertEqual(count(self.TEXT, "a", turn), 10 ** 29)
        self.assertEqual(count(self.TEXT, "a", turn + 6), 10 ** 29)
        self.assertEqual(count(self.TEXT, "a", turn + 7), 10 ** 29 + 1)
        self.assertEqual(count(self.TEXT, "z", turn + 2), 2)
        self.assertEqual(count(self.TEXT, "a", 9 * 10 ** 29 + 5), 4 * 10 ** 29)
        self.assertEqual(count([("a", MOST)], "a", MOST), MOST)

    def test_nth(self):
        turn = self.TURN
        self.assertEqual(nth(self.TEXT, "a", 10 ** 29 - 1), turn - 3)
        self.assertEqual(nth(self.TEXT, "a", 10 ** 29), turn + 6)
        self.assertEqual(nth(self.TEXT, "c", 10 ** 29 - 1), turn - 1)
        self.assertIsNone(nth(self.TEXT, "c", 10 ** 29))
        self.assertEqual(nth(self.TEXT, "a", 4 * 10 ** 29 - 1), 9 * 10 ** 29 + 4)
        self.assertIsNone(nth(self.TEXT, "a", 4 * 10 ** 29))
        self.assertIsNone(nth(self.TEXT, "a", 10 ** 39))

    def test_first_unlike(self):
        other = [("abcabc", 5 * 10 ** 28), ("zz", 2), ("zba", 1), ("b", 1), ("ab", 3 * 10 ** 29 - 2)]
        self.assertEqual(first_unlike(self.TEXT, other + [("a", 1)] + [("ba", 1)]),
                         9 * 10 ** 29 + 5)
        self.assertIsNone(first_unlike(self.TEXT, other + [("a", 1)]))
        self.assertEqual(first_unlike(self.TEXT, other), 9 * 10 ** 29 + 4)
        self.assertEqual(first_unlike(self.TEXT, other + [("c", 1)]), 9 * 10 ** 29 + 4)

    def test_long_words_that_are_unlike_late(self):
        # Words of n and n + 1 letters, all a but for the last one, first differ at the shorter's
        # end; those of one root never do; those that share all but a letter do at their sum.
        self.assertEqual(first_unlike([("a" * 58 + "b", 10)], [("a" * 59 + "b", 10)]), 58)
        self.assertIsNone(first_unlike([("ab" * 30, 29)], [("ab" * 29, 30)]))
        one, other = self.nearly_one(59, 60)
        due = plain_first_unlike(one * 3, other * 3)
        self.assertGreater(due, 110)
        self.assertEqual(first_unlike([(one, 10 ** 20)], [(other, 10 ** 20)]), due)

    def nearly_one(self, few, many):
        """Two words whose rows are one for as long as two such rows can be, and not longer."""
        # The letters that must be one for few + many - 2 letters are grouped; two groups are left.
        most = few + many - 2
        group = list(range(most))
        for at in range(most):
            for back in (few, many):
                if at >= back:
                    old, new = group[at], group[at - back]
                    group = [new if one == old else one for one in group]
        plain = "".join("a" if one == group[0] else "b" for one in group)
        return plain[:few], plain[:many]


class Refused(unittest.TestCase):
    TEXT = [("ab", 2)]

    def test_letter(self):
        self.assertEqual(letter(self.TEXT, 3), "b")
        for place in (-1, 4, 5, 10 ** 39, -10 ** 39, *whole_bad()):
            with self.assertRaises(NoPlace):
                letter(self.TEXT, place)
        with self.assertRaises(NoPlace):
            letter([], 0)

    def test_looks(self):
        self.assertEqual(looks(self.TEXT, 4, 2000), "")
        for place in (-1, 5, 10 ** 39, *whole_bad()):
            with self.assertRaises(NoPlace):
                looks(self.TEXT, place, 1)
        for many in (-1, 2001, 10 ** 39, *whole_bad()):
            with self.assertRaises(NoNumber):
                looks(self.TEXT, 0, many)

    def test_count(self):
        self.assertEqual(count(self.TEXT, "b", 4), 2)
        for sign in SIGN_BAD:
            with self.assertRaises(NoLetter):
                count(self.TEXT, sign, 0)
        for many in (-1, 5, 10 ** 39, *whole_bad()):
            with self.assertRaises(NoNumber):
                count(self.TEXT, "a", many)

    def test_nth(self):
        self.assertEqual(nth(self.TEXT, "b", 1), 3)
        for sign in SIGN_BAD:
            with self.assertRaises(NoLetter):
                nth(self.TEXT, sign, 0)
        for number in (-1, -10 ** 39, *whole_bad()):
            with self.assertRaises(NoNumber):
                nth(self.TEXT, "a", number)

    def test_what_is_handed_in_first_is_refused_first(self):
        for refused, ask in (
            (NoText, lambda: letter(None, -1)),
            (NoText, lambda: looks(None, -1, -1)),
            (NoPlace, lambda: looks(self.TEXT, -1, -1)),
            (NoText, lambda: count(None, "", -1)),
            (NoLetter, lambda: count(self.TEXT, "", -1)),
            (NoText, lambda: nth(None, "", -1)),
            (NoLetter, lambda: nth(self.TEXT, "", -1)),
            (NoText, lambda: first_unlike(None, self.TEXT)),
            (NoText, lambda: first_unlike(self.TEXT, None)),
        ):
            with self.assertRaises(refused):
                ask()


class Unchanged(unittest.TestCase):
    def test_nothing_is_changed_and_lists_and_tuples_are_told_alike(self):
        chance = seeded(2)
        for _ in range(20):
            text, other = some_text(chance), some_text(chance)
            asked = (
                lambda text, other: is_text(text), lambda text, other: length(text),
                lambda text, other: letter(text, 0) if text else None,
                lambda text, other: looks(text, 0, 9), lambda text, other: count(text, "a", 0),
                lambda text, other: nth(text, "a", 2), lambda text, other: first_unlike(text, other),
            )
            for ask in asked:
                told = []
                for form in (list, as_lists, as_tuples):
                    one, two = form(text), form(other)
                    kept = frozen((one, two))
                    told.append(ask(one, two))
                    told.append(ask(one, two))
                    self.assertEqual((one, two), kept)
                self.assertEqual(told, [told[0]] * 6)


if __name__ == "__main__":
    unittest.main()
