import inspect
import unittest

from blindkeys import stands
from blindkeys.errors import NoNumber, NoPlace, NoPlay, NoStand
from blindkeys.roads import after
from blindkeys.stands import (
    clip_behind, is_stand, letter_behind, look_alike, looks_behind, size_behind,
)
from marks import plain_play
from things import (
    NEARLY_PLAYS, PRINT, TURN, anything, as_lists, as_tuples, cut_up, frozen, light_hand, seeded,
    some_hand, some_play, whole_bad,
)

FAR = 10 ** 30
STAND = ([("abc", 2), ("z", 1)], 4, "pq")
PLAY = [([("write", "xy"), ("strike", 1)], 2)]
# What is no text of pieces, though nearly.
NEARLY_TEXTS = [
    [("a", 0)], [("a", -1)], [("a", True)], [("a", None)], [("a", "1")], [("a", 1.0)], [("", 1)], [("A", 1)],
    [("a" * 61, 1)], [("a b", 1)], [("a\n", 1)], [(b"a", 1)], [(["a"], 1)], [("a",)], [("a", 1, 1)], ["a1"],
    [("a", 1)] * 41, [("a", FAR + 1)], [("ab", FAR // 2), ("a", 1)], [("a", 10 ** 6000)], {"a": 1}, "a", [()],
]
# Read as stands these are wrong in one thing only.
NEARLY_STANDS = [
    *[(text, 0, "") for text in NEARLY_TEXTS],
    *[([("abc", 1)], cursor, "") for cursor in (-1, 4, FAR, -10 ** 6000, *whole_bad())],
    *[([("abc", 1)], 1, clip) for clip in ("A", "a b", "a" * 61, "a\n", "\u00e9", None, 1, ["a"], b"a", ("a",), True)],
    ([], 1, ""), ([("abc", 1)], 1), ([("abc", 1)],), ([("abc", 1)], 1, "", ""), (), [], {}, "abc",
    ("abc", 1, ""), {0: [], 1: 0, 2: ""}, [("abc", 1)], (("abc", 1), 1, ""),
]


def some_stand(chance):
    pieces = []
    for _ in range(chance.choice((0, 1, 2, 3, 9))):
        word = "".join(chance.choice("abcdefgh") for _ in range(chance.randint(1, 5)))
        pieces.append((word, chance.choice((1, 1, 2, 7))))
    many = len(plain(pieces))
    clip = "".join(chance.choice("klmno") for _ in range(chance.choice((0, 1, 3, 8))))
    return pieces, chance.choice((0, many, chance.randint(0, many))), clip


def plain(pieces):
    return "".join(word * times for word, times in pieces)


def sheet_behind(stand, play):
    pieces, cursor, clip = stand
    return plain_play((plain(pieces), cursor, clip), play)


class Stands(unittest.TestCase):
    def test_ordinary_stands(self):
        for stand in (STAND, ([], 0, ""), ([], 0, "a" * 60), ([("a", FAR)], FAR, "z"), ([("abc", 1)], 3, ""),
                      ([("a", 1)] * 40, 40, "a"), ([("a" * 60, 1)], 0, "")):
            self.assertIs(is_stand(stand), True)
            self.assertIs(is_stand(as_lists(stand)), True)
            self.assertIs(is_stand(as_tuples(stand)), True)

    def test_nearly_stands_are_none(self):
        for number, thing in enumerate(NEARLY_STANDS):
            self.assertIs(is_stand(thing), False, number)

    def test_anything_is_answered(self):
        plain_texts = ("", "a", "abc", "left", "paste")
        for number, thing in enumerate(anything()):
            self.assertIs(is_stand(thing), False, number)
            text = type(thing) in (list, tuple) and len(thing) == 0
            self.assertIs(is_stand((thing, 0, "")), text, number)
            self.assertIs(is_stand(([("a", 1)], thing, "")), type(thing) is int and thing in (0, 1), number)
            clip = type(thing) is str and thing in plain_texts
            self.assertIs(is_stand(([("a", 1)], 0, thing)), clip, number)
            self.assertIs(is_stand([thing, thing, thing]), False, number)


class Near(unittest.TestCase):
    def test_an_ordinary_stand(self):
        # abca|bcz comes to abcaxyxy|z by two words written and two letters struck.
        self.assertEqual(size_behind(STAND, PLAY), (9, 8))
        self.assertEqual(looks_behind(STAND, PLAY, 0), "abcaxyxyz")
        self.assertEqual(looks_behind(STAND, PLAY, 3, many=3), "axy")
        self.assertEqual([letter_behind(STAND, PLAY, place) for place in range(9)], list("abcaxyxyz"))
        self.assertEqual(clip_behind(STAND, PLAY), "pq")
        self.assertEqual(clip_behind(STAND, [([("left", 1), ("copy", 3)], 1)]), "abc")
        self.assertEqual(looks_behind(STAND, [([("paste",)], 2)], 3), "apqpqbcz")

    def test_no_parts(self):
        self.assertEqual(size_behind(STAND, []), (7, 4))
        self.assertEqual(looks_behind(STAND, (), 0), "abcabcz")
        self.assertEqual(clip_behind(STAND, []), "pq")
        self.assertEqual(size_behind(([], 0, ""), []), (0, 0))
        self.assertEqual(looks_behind(([], 0, ""), [], 0), "")
        self.assertEqual(clip_behind(([], 0, ""), []), "")
        self.assertEqual(looks_behind(([], 0, ""), [([("write", "ab")], 3)], 0), "ababab")
        self.assertEqual(looks_behind(([], 0, "cd"), [([("paste",)], 3)], 1), "dcdcd")

    def compare(self, stand, play):
        words, cursor, clip = sheet_behind(stand, play)
        self.assertEqual(size_behind(stand, play), (len(words), cursor), (stand, play))
        self.assertEqual(clip_behind(stand, play), clip, (stand, play))
        self.assertEqual(looks_behind(stand, play, 0), words[:60], (stand, play))
        for place in {0, cursor, max(0, cursor - 9), len(words), max(0, len(words) - 5)}:
            for many in (0, 1, 7, 2000):
                told = looks_behind(stand, play, place, many=many)
                self.assertEqual(told, words[place:place + many], (stand, play, place, many))
        for place in {0, cursor - 1, cursor, len(words) - 1}:
            if 0 <= place < len(words):
                self.assertEqual(letter_behind(stand, play, place), words[place], (stand, play, place))

    def test_letter_by_letter(self):
        chance = seeded(61)
        for _ in range(150):
            self.compare(some_stand(chance), some_play(chance, 3, 5))

    def test_letter_by_letter_for_long(self):
        chance = seeded(62)
        for _ in range(25):
            play = [(light_hand(chance, 12, most_keys=7, most=3), chance.randint(20, 90))]
            self.compare(some_stand(chance), play + some_play(chance, 1, 30))

    def test_twelve_parts(self):
        chance = seeded(63)
        for _ in range(6):
            play = [(some_hand(chance, 4), chance.randint(0, 3)) for _ in range(12)]
            self.compare(some_stand(chance), play)

    def test_forty_pieces(self):
        pieces = [("abcdefghij"[at % 10] * (at % 3 + 1), at + 1) for at in range(40)]
        for cursor in (0, 777, len(plain(pieces))):
            self.compare((pieces, cursor, "xyz"), [([("right", 3), ("paste",), ("cut", 2)], 50)])

    def test_looks_at_and_beyond_the_end(self):
        for many in (0, 1, 60, 2000):
            self.assertEqual(looks_behind(STAND, PLAY, 9, many=many), "")
            self.assertEqual(looks_behind(STAND, PLAY, 8, many=many), "z"[:many])
        self.assertEqual(looks_behind(([("ab", 1000), ("c", 9)], 0, ""), [], 1, many=2000), "b" + "ab" * 999 + "c")
        self.assertEqual(looks_behind(([("ab", 1000)], 0, ""), [], 7), "ba" * 30)
        self.assertEqual(len(looks_behind(([("ab", 2000)], 0, ""), PLAY, 0, many=2000)), 2000)


class Far(unittest.TestCase):
    def test_typed_and_first_letters(self):
        stand = ([("abc", 10 ** 29), ("de", 10 ** 29), ("z", 10 ** 29)], 3 * 10 ** 29, "uvw")
        play = [([("write", "xyz")], FAR), ([("right", 2), ("paste",)], 10 ** 29)]
        self.assertEqual(size_behind(stand, play), (6 * 10 ** 29 + 33 * 10 ** 29, 38 * 10 ** 29))
        self.assertEqual(looks_behind(stand, play, 3 * 10 ** 29 - 4, many=9), "cabcxyzxy")
        self.assertEqual(looks_behind(stand, play, 33 * 10 ** 29 - 2, many=14), "yzdeuvwdeuvwde")
        self.assertEqual(looks_behind(stand, play, 38 * 10 ** 29 - 5, many=9), "deuvwzzzz")
        self.assertEqual(letter_behind(stand, play, 39 * 10 ** 29 - 1), "z")
        self.assertEqual(looks_behind(stand, play, 39 * 10 ** 29 - 2), "zz")
        self.assertEqual(clip_behind(stand, play), "uvw")

    def test_printed_rings(self):
        for many, hand in PRINT.items():
            word = "abcdefghi"[:many]
            stand = ([("xy", 5), (word, 1), ("z", FAR - 30)], 10, "w")
            self.assertEqual(size_behind(stand, [(hand, FAR)]), (2 * FAR - 20 + many, 10 + FAR))
            for printed in (0, FAR // 7, FAR - 200):
                told = looks_behind(stand, [(hand, FAR)], 10 + printed, many=120)
                self.assertEqual(told, (word * 130)[printed % many:][:120])
            self.assertEqual(clip_behind(stand, [(hand, FAR)]), word[(FAR - 1) % many])

    def test_pressing_and_going_back(self):
        stand = ([("ab", FAR // 4), ("cd", FAR // 4)], FAR // 2, "")
        there = [([("left", 1)], FAR // 2 - 1), ([("right", 2)], FAR // 4 - 2)]
        self.assertEqual(size_behind(stand, there), (FAR, FAR // 2 - 3))
        play = there + [([("write", "q"), ("right", 3)], 2)]
        self.assertEqual(looks_behind(stand, play, FAR // 2 - 4, many=11), "aqbabqcdcdc")

    def test_plays_cut_up(self):
        chance = seeded(64)
        for _ in range(40):
            play = [(light_hand(chance, 60, most_keys=9, most=chance.choice((2, 5))),
                     chance.choice((1, 50, 10 ** 9, FAR, chance.randrange(FAR))))
                    for _ in range(chance.randint(1, 3))]
            stand = ([("abcde", chance.choice((1, 10 ** 29))), ("fg", 2), ("h", chance.choice((1, 10 ** 29)))],
                     chance.choice((0, 5, 9)), chance.choice(("", "kl")))
            cut, _ = cut_up(play, chance)
            size, cursor = size_behind(stand, play)
            self.assertEqual((size, cursor), size_behind(stand, cut))
            self.assertEqual(clip_behind(stand, play), clip_behind(stand, cut))
            for place in {0, max(0, cursor - 30), max(0, size - 60), size // 3}:
                self.assertEqual(looks_behind(stand, play, place), looks_behind(stand, cut, place))
                self.assertIs(look_alike(stand, play, stand, cut, place, 60), True)


class Alike(unittest.TestCase):
    def test_a_stand_and_itself_by_other_pieces(self):
        other = ([("abca", 1), ("bc", 1), ("z", 1)], 4, "pq")
        play = [([("paste",), ("write", "k")], 3)]
        for place in range(17):
            for many in (0, 1, 5, 2000):
                self.assertIs(look_alike(STAND, play, other, play, place, many), True)
        one = ([("ab", 2 * 10 ** 29)], 10 ** 29, "c")
        two = ([("abab", 10 ** 29)], 10 ** 29, "c")
        self.assertIs(look_alike(one, [(PRINT[3], FAR)], two, [(PRINT[3], FAR)], FAR // 2, 2000), True)

    def test_one_letter_otherwise(self):
        other = ([("abcabcy", 1)], 4, "pq")
        play = [([("left", 1)], 4)]
        for place in range(8):
            for many in range(9):
                due = place + many < 7 or place == 7 or many == 0
                self.assertIs(look_alike(STAND, play, other, play, place, many), due, (place, many))
                self.assertIs(look_alike(STAND, play, other, [], place, many), due, (place, many))

    def test_other_plays_and_cursors_that_look_alike(self):
        self.assertIs(look_alike(([], 0, ""), [([("write", "ab")], FAR)], ([("ab", 7)], 3, "z"), [], 4, 11), False)
        self.assertIs(look_alike(([], 0, ""), [([("write", "ab")], FAR)], ([("ab", 7)], 3, "z"), [], 4, 10), True)
        self.assertIs(look_alike(([("ab", 7)], 3, "z"), [], ([], 0, ""), [([("write", "ab")], FAR)], 4, 10), True)
        self.assertIs(look_alike(([("ab", 7)], 3, "z"), [], ([], 0, ""), [([("write", "ab")], FAR)], 0, 14), True)

    def test_the_other_one_ends_or_goes_on(self):
        short, long = ([("abc", 1)], 0, ""), ([("abcd", 1)], 0, "")
        self.assertIs(look_alike(long, [], short, [], 0, 3), True)
        self.assertIs(look_alike(long, [], short, [], 0, 4), False)
        self.assertIs(look_alike(long, [], short, [], 3, 1), False)
        self.assertIs(look_alike(long, [], short, [], 4, 1), True)
        self.assertIs(look_alike(long, [], short, [], 4, 0), True)
        self.assertIs(look_alike(short, [], long, [], 0, 3), True)
        self.assertIs(look_alike(short, [], long, [], 0, 4), False)
        self.assertIs(look_alike(short, [], long, [], 3, 1), False)
        self.assertIs(look_alike(short, [], long, [], 3, 0), True)

    def test_the_other_one_has_nothing_on_the_stretch(self):
        for place in (1, 2, 3, FAR - 9):
            self.assertIs(look_alike(([("a", FAR)], 0, ""), [], ([("a", 1)], 0, ""), [], place, 3), False)
            self.assertIs(look_alike(([("a", FAR)], 0, ""), [], ([("a", 1)], 0, ""), [], place, 0), True)
        self.assertIs(look_alike(([("a", FAR)], 0, ""), [], ([], 0, ""), [], FAR, 3), True)
        rubbed = [([("rub", 60)], FAR)]
        self.assertIs(look_alike(STAND, [], ([("abc", 9)], 27, ""), rubbed, 0, 1), False)
        self.assertIs(look_alike(([("abc", 9)], 27, ""), rubbed, ([], 0, "a"), [], 0, 1), True)


class Refused(unittest.TestCase):
    ASKS = (
        size_behind, clip_behind, lambda stand, play: letter_behind(stand, play, 0),
        lambda stand, play: looks_behind(stand, play, 0),
        lambda stand, play: look_alike(stand, play, STAND, [], 0, 1),
        lambda stand, play: look_alike(STAND, [], stand, play, 0, 1),
    )

    def test_what_is_no_stand_or_no_play(self):
        for ask in self.ASKS:
            for number, thing in enumerate(NEARLY_STANDS + anything()):
                with self.assertRaises(NoStand, msg=number):
                    ask(thing, PLAY)
            for number, thing in enumerate(NEARLY_PLAYS + anything()):
                if type(thing) not in (list, tuple) or len(thing) > 0:
                    with self.assertRaises(NoPlay, msg=number):
                        ask(STAND, thing)

    def test_places_that_are_none(self):
        for place in (-1, 9, 10, FAR, -FAR, *whole_bad()):
            with self.assertRaises(NoPlace):
                letter_behind(STAND, PLAY, place)
        for place in (-1, 10, FAR, -FAR, *whole_bad()):
            with self.assertRaises(NoPlace):
                looks_behind(STAND, PLAY, place)
            with self.assertRaises(NoPlace):
                look_alike(STAND, PLAY, ([("a", FAR)], 0, ""), [], place, 1)
        with self.assertRaises(NoPlace):
            letter_behind(([], 0, "a"), [], 0)
        with self.assertRaises(NoPlace):
            looks_behind(([("a", FAR)], FAR, ""), [([("rub", 1)], FAR)], 1)
        self.assertEqual(looks_behind(([("a", FAR)], FAR, ""), [([("rub", 1)], FAR)], 0), "")

    def test_numbers_that_are_none(self):
        for many in (-1, 2001, FAR, *whole_bad()):
            with self.assertRaises(NoNumber):
                looks_behind(STAND, PLAY, 9, many=many)
            with self.assertRaises(NoNumber):
                look_alike(STAND, PLAY, STAND, PLAY, 9, many)

    def test_which_goes_first(self):
        for refused, ask in (
            (NoStand, lambda: size_behind(None, None)), (NoPlay, lambda: size_behind(STAND, None)),
            (NoStand, lambda: clip_behind(None, None)), (NoPlay, lambda: clip_behind(STAND, None)),
            (NoStand, lambda: letter_behind(None, None, None)), (NoPlay, lambda: letter_behind(STAND, None, None)),
            (NoPlace, lambda: letter_behind(STAND, PLAY, None)),
            (NoStand, lambda: looks_behind(None, None, None, many=None)),
            (NoPlay, lambda: looks_behind(STAND, None, None, many=None)),
            (NoPlace, lambda: looks_behind(STAND, PLAY, None, many=None)),
            (NoNumber, lambda: looks_behind(STAND, PLAY, 0, many=None)),
            (NoStand, lambda: look_alike(None, None, None, None, None, None)),
            (NoPlay, lambda: look_alike(STAND, None, None, None, None, None)),
            (NoStand, lambda: look_alike(STAND, PLAY, None, None, None, None)),
            (NoPlay, lambda: look_alike(STAND, PLAY, STAND, None, None, None)),
            (NoPlace, lambda: look_alike(STAND, PLAY, STAND, PLAY, None, None)),
            (NoNumber, lambda: look_alike(STAND, PLAY, STAND, PLAY, 0, None)),
        ):
            with self.assertRaises(refused):
                ask()

    def test_arguments_have_their_names(self):
        for name, due in {
            "is_stand": "(thing)", "size_behind": "(stand, play)", "letter_behind": "(stand, play, place)",
            "looks_behind": "(stand, play, place, *, many=60)", "clip_behind": "(stand, play)",
            "look_alike": "(stand, play, other, then, place, many)",
        }.items():
            asked = getattr(stands, name)
            self.assertEqual(str(inspect.signature(asked)), due)
            self.assertEqual(asked.__module__, "blindkeys.stands")


class Unchanged(unittest.TestCase):
    def test_lists_and_tuples_are_told_alike_and_nothing_is_changed(self):
        chance = seeded(65)
        for _ in range(25):
            stand, play = some_stand(chance), some_play(chance, 3, 4)
            for ask in (size_behind, clip_behind, lambda stand, play: looks_behind(stand, play, 0),
                        lambda stand, play: look_alike(stand, play, stand, play, 0, 9)):
                told = []
                for form in (lambda thing: thing, as_lists, as_tuples):
                    handed = form(stand), form(play)
                    kept = frozen(handed)
                    told += [ask(*handed), ask(*handed)]
                    self.assertEqual(handed, kept)
                self.assertEqual(told, [told[0]] * 6)

    def test_the_kinds_of_what_is_told(self):
        self.assertIs(type(size_behind(as_lists(STAND), as_lists(PLAY))), tuple)
        self.assertIs(type(clip_behind(STAND, PLAY)), str)
        self.assertIs(type(letter_behind(STAND, PLAY, 0)), str)
        self.assertIs(type(looks_behind(STAND, PLAY, 0)), str)

    def test_lengths_are_those_behind_the_play(self):
        for hand in (TURN[5], PRINT[5]):
            left, right, held = after([(hand, FAR)], (2, 9, 0))
            self.assertEqual(size_behind(([("abc", 3), ("de", 1)], 2, ""), [(hand, FAR)]), (left + right, left))
            self.assertEqual(len(clip_behind(([("abc", 3), ("de", 1)], 2, ""), [(hand, FAR)])), held)


if __name__ == "__main__":
    unittest.main()
