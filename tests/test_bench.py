import inspect
import unittest

from blindkeys.bench import Bench
from blindkeys.errors import Full, NoHand, NoNumber, NoPlace, NoStand, Nothing, NoTimes
from blindkeys.roads import after, is_play, origin
from blindkeys.stands import clip_behind, letter_behind, looks_behind
from marks import plain_play
from test_stands import NEARLY_STANDS
from things import NEARLY_HANDS, PRINT, anything, as_lists, as_tuples, frozen, seeded, some_hand, whole_bad

FAR = 10 ** 30
TEXT = [("abc", 2), ("z", 1)]
HAND = [("copy", 2), ("right", 1), ("paste",), ("write", "xy")]


def a_bench():
    return Bench(TEXT, cursor=4, clip="pq")


def all_told(bench):
    """All that a bench tells, to compare with later."""
    left, right, held = bench.lengths()
    places = range(min(left + right, 30))
    return (bench.play(), (left, right, held), [bench.letter(place) for place in places], bench.looks(0), bench.clip(),
            [bench.origin(place) for place in places], len(bench))


class Benches(unittest.TestCase):
    def test_a_new_bench(self):
        bench = a_bench()
        self.assertEqual((bench.play(), len(bench), bench.lengths()), ([], 0, (4, 3, 2)))
        self.assertEqual((bench.looks(0), bench.clip(), bench.letter(6)), ("abcabcz", "pq", "z"))
        self.assertEqual(bench.origin(5), ("first", 5))
        bench = Bench(TEXT)
        self.assertEqual((bench.lengths(), bench.clip()), ((0, 7, 0), ""))
        bench = Bench([])
        self.assertEqual((bench.lengths(), bench.clip(), bench.looks(0), len(bench)), ((0, 0, 0), "", "", 0))
        bench = Bench((), clip="a")
        self.assertEqual((bench.lengths(), bench.clip()), ((0, 0, 1), "a"))

    def test_deeds(self):
        bench = a_bench()
        self.assertIsNone(bench.press(HAND))
        self.assertEqual((bench.play(), len(bench)), ([(HAND, 1)], 1))
        self.assertEqual((bench.lengths(), bench.looks(0), bench.clip()), ((9, 2, 2), "abcabbcxycz", "bc"))
        self.assertEqual(bench.origin(7), ("typed", 0, 0, 3, 0))
        self.assertIsNone(bench.press([("rub", 1)], times=3))
        self.assertEqual((bench.play(), len(bench)), ([(HAND, 1), ([("rub", 1)], 3)], 2))
        self.assertEqual((bench.lengths(), bench.looks(3), bench.letter(5)), ((6, 2, 2), "abbcz", "b"))
        self.assertIsNone(bench.undo())
        self.assertEqual((bench.play(), bench.looks(0)), ([(HAND, 1)], "abcabbcxycz"))
        self.assertIsNone(bench.undo())
        self.assertEqual(all_told(bench), all_told(a_bench()))

    def test_looks(self):
        bench = Bench([("ab", FAR // 2)])
        self.assertEqual(bench.looks(FAR // 2 + 1), "ba" * 30)
        self.assertEqual(bench.looks(FAR // 2, many=3), "aba")
        self.assertEqual(bench.looks(FAR - 1, many=2000), "b")
        self.assertEqual(len(bench.looks(3, many=2000)), 2000)
        self.assertEqual((bench.looks(FAR), bench.looks(0, many=0)), ("", ""))

    def test_like_the_stages(self):
        chance = seeded(101)
        for _ in range(30):
            stand = ([("abcd", chance.randint(1, 9)), ("ef", 1)], chance.randint(0, 6), chance.choice(("", "klm")))
            bench = Bench(stand[0], cursor=stand[1], clip=stand[2])
            play = [(some_hand(chance), chance.choice((0, 1, 2, 3))) for _ in range(chance.randint(0, 12))]
            for hand, times in play:
                bench.press(hand, times=times)
            self.assertEqual((bench.play(), len(bench)), (play, len(play)))
            words, cursor, clip = plain_play(("abcd" * stand[0][0][1] + "ef", stand[1], stand[2]), play)
            self.assertEqual(bench.lengths(), (cursor, len(words) - cursor, len(clip)))
            self.assertEqual((bench.looks(0), bench.looks(0, many=2000)), (words[:60], words[:2000]))
            self.assertEqual(bench.clip(), clip)
            ahead = (stand[1], len(stand[0][0][0]) * stand[0][0][1] + 2 - stand[1], len(stand[2]))
            for place in range(0, len(words), 7):
                self.assertEqual(bench.letter(place), words[place])
                self.assertEqual(bench.origin(place), origin(play, ahead, place))

    def test_far(self):
        bench = Bench([("abc", 1)], clip="q")
        bench.press(PRINT[3], times=FAR)
        bench.press([("left", 1)], times=FAR)
        bench.press([("right", 2)], times=FAR // 4)
        self.assertEqual(bench.lengths(), (FAR // 2, FAR // 2 + 3, 1))
        play = [(PRINT[3], FAR), ([("left", 1)], FAR), ([("right", 2)], FAR // 4)]
        self.assertEqual(bench.lengths(), after(play, (0, 3, 1)))
        stand = ([("abc", 1)], 0, "q")
        self.assertEqual(bench.looks(FAR - 10, many=14), looks_behind(stand, play, FAR - 10, many=14))
        self.assertEqual(bench.letter(FAR // 2), letter_behind(stand, play, FAR // 2))
        self.assertEqual(bench.clip(), clip_behind(stand, play))
        self.assertEqual(bench.origin(FAR // 2), ("first", FAR // 2 % 3))

    def test_twelve_parts_and_one_more(self):
        bench = a_bench()
        for number in range(12):
            self.assertEqual(len(bench), number)
            bench.press([("write", "a")], times=number)
        kept = all_told(bench)
        for hand, times in (([("write", "a")], 1), ([], 0), ([], FAR)):
            with self.assertRaises(Full):
                bench.press(hand, times=times)
            self.assertEqual(all_told(bench), kept)
        bench.undo()
        self.assertEqual((len(bench), bench.looks(4)), (11, "a" * 55 + "bcz"))
        bench.press([("write", "b")])
        self.assertEqual((len(bench), bench.looks(4)), (12, "a" * 55 + "bbcz"))
        with self.assertRaises(Full):
            bench.press([])
        for number in range(12):
            bench.undo()
            self.assertEqual(len(bench), 11 - number)
        self.assertEqual(all_told(bench), all_told(a_bench()))

    def test_nothing_to_undo(self):
        bench = a_bench()
        with self.assertRaises(Nothing):
            bench.undo()
        bench.press([])
        bench.undo()
        for _ in range(2):
            with self.assertRaises(Nothing):
                bench.undo()
        self.assertEqual(all_told(bench), all_told(a_bench()))

    def test_parts_that_do_nothing_are_parts(self):
        bench = a_bench()
        bench.press([])
        bench.press(HAND, times=0)
        bench.press([], times=FAR)
        bench.press([("write", "k")])
        self.assertEqual(bench.play(), [([], 1), (HAND, 0), ([], FAR), ([("write", "k")], 1)])
        self.assertEqual(bench.origin(4), ("typed", 3, 0, 0, 0))

    def test_its_length_is_no_truth_of_the_rest(self):
        self.assertEqual(len(Bench([])), 0)
        bench = a_bench()
        bench.press([])
        self.assertEqual(len(bench), 1)


class Refused(unittest.TestCase):
    def test_what_is_no_stand(self):
        for number, thing in enumerate(anything()):
            if type(thing) not in (list, tuple) or len(thing) > 0:
                with self.assertRaises(NoStand, msg=number):
                    Bench(thing)
            if type(thing) is not int or thing not in range(8):
                with self.assertRaises(NoStand, msg=number):
                    Bench(TEXT, cursor=thing)
            if type(thing) is not str or thing not in ("", "a", "abc", "left", "paste"):
                with self.assertRaises(NoStand, msg=number):
                    Bench(TEXT, clip=thing)
        for number, thing in enumerate(NEARLY_STANDS):
            if type(thing) in (list, tuple) and len(thing) == 3:
                with self.assertRaises(NoStand, msg=number):
                    Bench(thing[0], cursor=thing[1], clip=thing[2])
        Bench(TEXT, cursor=7, clip="a" * 60)
        for handed in ({"cursor": 8}, {"cursor": -1}, {"clip": "a" * 61}):
            with self.assertRaises(NoStand):
                Bench(TEXT, **handed)

    def test_refused_deeds_change_nothing(self):
        bench = a_bench()
        bench.press(HAND)
        kept = all_told(bench)
        for number, thing in enumerate(NEARLY_HANDS + anything()):
            with self.assertRaises(NoHand, msg=number):
                bench.press(thing)
        for thing in (-1, FAR + 1, 10 ** 6000, *whole_bad()):
            with self.assertRaises(NoTimes):
                bench.press(HAND, times=thing)
        self.assertEqual(all_told(bench), kept)
        bench.press(HAND, times=FAR)
        bench.undo()
        self.assertEqual(all_told(bench), kept)

    def test_places_and_numbers_that_are_none(self):
        bench = a_bench()
        bench.press(HAND)
        for place in (-1, 11, FAR, *whole_bad()):
            for ask in (bench.letter, bench.origin):
                with self.assertRaises(NoPlace):
                    ask(place)
        for place in (-1, 12, FAR, *whole_bad()):
            for many in (60, None):
                with self.assertRaises(NoPlace):
                    bench.looks(place, many=many)
        for many in (-1, 2001, FAR, *whole_bad()):
            with self.assertRaises(NoNumber):
                bench.looks(11, many=many)
        self.assertEqual(bench.looks(11, many=2000), "")

    def test_which_goes_first(self):
        bench = a_bench()
        with self.assertRaises(NoHand):
            bench.press(None, times=None)
        for _ in range(12):
            bench.press([])
        for refused, handed in ((NoHand, (None, None)), (NoHand, (None, 1)), (NoTimes, ([], None)), (Full, ([], 1))):
            with self.assertRaises(refused):
                bench.press(handed[0], times=handed[1])

    def test_arguments_have_their_names_and_methods_are_its_own(self):
        self.assertEqual(str(inspect.signature(Bench)), "(text, *, cursor=0, clip='')")
        for name, due in {
            "press": "(self, hand, *, times=1)", "undo": "(self)", "play": "(self)", "lengths": "(self)",
            "letter": "(self, place)", "looks": "(self, place, *, many=60)", "clip": "(self)",
            "origin": "(self, place)", "twin": "(self)", "__len__": "(self)",
        }.items():
            self.assertEqual(str(inspect.signature(vars(Bench)[name])), due)
        self.assertEqual(Bench.__module__, "blindkeys.bench")


class Unchanged(unittest.TestCase):
    def test_told_plays_are_the_askers_own(self):
        bench = a_bench()
        bench.press(HAND, times=2)
        kept = all_told(bench)
        told = bench.play()
        told[0][0].append(("left", 1))
        told[0][0][0] = ("rub", 3)
        told.append(([], 1))
        bench.play().clear()
        self.assertEqual(all_told(bench), kept)
        told = bench.play()
        bench.press([("rub", 1)])
        self.assertEqual(told, kept[0])
        bench.undo()
        bench.undo()
        self.assertEqual(told, kept[0])

    def test_what_was_handed_in_may_be_changed_behind_the_deed(self):
        text, hand = [["abc", 2], ["z", 1]], [["copy", 2], ["right", 1], ["paste"], ["write", "xy"]]
        bench = Bench(text, cursor=4, clip="pq")
        bench.press(hand, times=2)
        kept = all_told(bench)
        text[0][0] = "kkk"
        text.clear()
        hand[0][1] = 1
        hand[3][1] = "q"
        hand.append(["left", 1])
        self.assertEqual(all_told(bench), kept)
        bench.undo()
        self.assertEqual(bench.looks(0), "abcabcz")

    def test_lists_and_tuples_are_told_alike_and_nothing_is_changed(self):
        told = []
        for form in (lambda thing: thing, as_lists, as_tuples):
            text, hand = form(TEXT), form(HAND)
            kept = frozen((text, hand))
            bench = Bench(text, cursor=4, clip="pq")
            bench.press(hand, times=3)
            told += [all_told(bench), all_told(bench)]
            self.assertEqual((text, hand), kept)
        self.assertEqual(told, [told[0]] * 6)

    def test_the_kinds_of_what_is_told(self):
        bench = Bench(as_lists(TEXT))
        bench.press(as_lists(HAND))
        bench.press(as_tuples(HAND))
        play = bench.play()
        self.assertIs(is_play(play), True)
        self.assertIs(type(play), list)
        for part in play:
            self.assertEqual((type(part), type(part[0])), (tuple, list))
            self.assertEqual({type(key) for key in part[0]}, {tuple})
        self.assertEqual((type(bench.lengths()), type(bench.origin(0))), (tuple, tuple))
        self.assertEqual({type(bench.letter(0)), type(bench.looks(0)), type(bench.clip())}, {str})

    def test_a_told_play_may_be_handed_in(self):
        bench = a_bench()
        bench.press(HAND, times=2)
        other = a_bench()
        for hand, times in bench.play():
            other.press(hand, times=times)
        self.assertEqual(all_told(other), all_told(bench))
        self.assertEqual(after(bench.play(), (4, 3, 2)), bench.lengths())


class Twins(unittest.TestCase):
    def test_a_twin_goes_its_own_way(self):
        bench = a_bench()
        bench.press(HAND)
        bench.press([("write", "k")], times=2)
        kept = all_told(bench)
        twin = bench.twin()
        self.assertIs(type(twin), Bench)
        self.assertIsNot(twin, bench)
        self.assertEqual(all_told(twin), kept)
        twin.undo()
        twin.press([("rub", 3)])
        twin.press([("rub", 1)])
        self.assertEqual(all_told(bench), kept)
        changed = all_told(twin)
        bench.undo()
        bench.undo()
        self.assertEqual(all_told(bench), all_told(a_bench()))
        self.assertEqual(all_told(twin), changed)
        self.assertEqual(twin.play(), [(HAND, 1), ([("rub", 3)], 1), ([("rub", 1)], 1)])

    def test_a_twin_undoes_what_was_done_before(self):
        bench = a_bench()
        for _ in range(12):
            bench.press([("write", "k")])
        twin = bench.twin()
        with self.assertRaises(Full):
            twin.press([])
        for _ in range(12):
            twin.undo()
        with self.assertRaises(Nothing):
            twin.undo()
        self.assertEqual((len(bench), len(twin)), (12, 0))
        self.assertEqual(all_told(twin), all_told(a_bench()))

    def test_told_plays_of_twins(self):
        bench = a_bench()
        bench.press(HAND)
        twin = bench.twin()
        bench.play()[0][0].clear()
        twin.play()[0][0].append(("left", 1))
        self.assertEqual((bench.play(), twin.play()), ([(HAND, 1)], [(HAND, 1)]))

    def test_two_benches(self):
        one, two = a_bench(), a_bench()
        one.press(HAND)
        self.assertEqual((len(one), len(two)), (1, 0))
        self.assertEqual(two.looks(0), "abcabcz")


if __name__ == "__main__":
    unittest.main()
