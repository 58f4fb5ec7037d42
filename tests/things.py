"""What several tests need: things of every kind, and how to see that nothing was changed."""

import copy
import math
import random

KINDS = ("left", "right", "strike", "rub", "copy", "cut")
# Read as hands these are wrong in one thing only.
NEARLY_HANDS = [
    *[[(kind, k)] for kind in KINDS for k in (0, -1, 61, 10 ** 6000, True, None, "1", 1.0, "a")],
    *[[(kind,)] for kind in KINDS], *[[(kind, 1, 1)] for kind in KINDS],
    [("write",)], [("write", "")], [("write", "a" * 61)], [("write", "A")], [("write", "a b")],
    [("write", "a\n")], [("write", "\u00e4")], [("write", 1)], [("write", None)], [("write", ["a"])],
    [("write", b"a")], [("write", "a", 1)], [("paste", 1)], [("paste", "a")], [("paste", None)],
    [("Left", 1)], [("", 1)], [("left ", 1)], [("up", 1)], [("Paste",)], [("",)], [()], [[]],
    ["paste"], ["left"], "paste", ("paste",), ("left", 1), [("paste",), None], [None, ("paste",)],
    [(b"left", 1)], [(1, "left")], [[[], 1]], {"left": 1}, {("left", 1): 1}, {("left", 1)}, [{"paste": 1}],
    [("paste",)] * 61, [("left", 1)] * 61, [("left", 30), ("right", 31)], [("write", 3)],
    [("write", "a" * 60), ("paste",)], [("copy", 59), ("paste",), ("paste",)],
]

# Read as plays these are wrong in one thing only.
NEARLY_PLAYS = [
    [([], 1)] * 13, [([], -1)], [([], 10 ** 30 + 1)], [([], True)], [([], None)], [([], "1")], [([], 1.0)],
    [([],)], [([], 1, 1)], [(1, [])], [[]], [()], [None], ([], 1), [[("left", 1)]], [("left", 1)],
    [([], 1), None], [None, ([], 1)], [([], 1), ([], -1)], {"a": 1}, {0: ([], 1)}, "ab", [{"a": 1, "b": 2}],
    [({}, 1)], [("", 1)], [(None, 1)], [([], 10 ** 6000)], [([], -10 ** 6000)], [([[]], 1)],
    *[[(hand, 1)] for hand in NEARLY_HANDS],
]
# A hand that turns a ring of so many letters right of the cursor, and one that prints it, too.
TURN = {many: [("cut", 1), ("right", many - 1), ("paste",), ("left", many)] for many in (2, 3, 5, 9)}
PRINT = {many: [("copy", 1), ("paste",)] + hand for many, hand in TURN.items()}


class Rude:
    """A thing that answers nothing but errors."""

    def _refuse(self, *told):
        raise RuntimeError("asked")

    __eq__ = __ne__ = __lt__ = __le__ = __gt__ = __ge__ = _refuse
    __len__ = __iter__ = __getitem__ = __bool__ = __index__ = __int__ = _refuse
    __contains__ = __hash__ = __str__ = __repr__ = __add__ = __mul__ = _refuse

    @property
    def __class__(self):
        raise RuntimeError("asked")


class RudeList(list):
    """A list that answers nothing but errors."""

    __len__ = __iter__ = __getitem__ = Rude._refuse


def nested(depth):
    thing = []
    for _ in range(depth):
        thing = [thing]
    return thing


def endless():
    thing = []
    thing.append(thing)
    return thing


def anything():
    """Things that are no text of pieces, no hand, no sheet, no lengths and no play."""
    return [
        None, True, False, 0, 1, -1, 10 ** 40, 10 ** 6000, 1.0, math.nan, math.inf, 1j,
        "", "a", "abc", "left", "paste", "\n", "\u00e9", "\udc80", "a" * 4000,
        b"", b"abc", bytearray(b"a"), range(0), range(3), {}, {"a": 1}, {0: "a"}, set(), {"a"},
        frozenset(), object(), object, len, iter([]), (k for k in [1]), Rude(), RudeList(),
        [None], [True], [0], [""], ["a"], ["ab"], ["a1"], [[]], [()], [{}], [{"a": 1}], [Rude()],
        ["a", 1], ("a", 1), ("left", 1), ("paste",), ["paste"], [b"ab"], [RudeList()],
        nested(1), nested(40), endless(), [[None, None]], [[None, None, None]], [None] * 61,
        [[Rude(), Rude()]], [[Rude(), Rude(), Rude()]], [Rude(), Rude(), Rude()],
        [[{}, 1]], [["a", []]], [["left", {}]], [["write", []]], [[["left"], 1]],
        [("left", "right")], [({"left": 1}, 1)], [(["write"], "a")],
        ["abc", "1", ""], ["abc", None, ""], ["abc", 1, None], [None, 0, ""], [["a"], 0, ""],
        ("abc", 0), ("abc", 0, "", ""), "ab1", {"abc": 0, 0: 1, "": 2},
    ]


def whole_bad():
    """Things that are no whole number at all."""
    return [None, True, False, "1", "", 1.0, 0.0, math.nan, [], [1], (1,), {}, b"1", Rude()]


def frozen(thing):
    """A copy that tells lists and tuples apart, to compare with later."""
    return copy.deepcopy(thing)


def seeded(number):
    return random.Random(number)


def as_lists(thing):
    """The same thing with lists for tuples, at every depth."""
    if isinstance(thing, (list, tuple)):
        return [as_lists(part) for part in thing]
    return thing


def as_tuples(thing):
    """The same thing with tuples for lists, at every depth."""
    if isinstance(thing, (list, tuple)):
        return tuple(as_tuples(part) for part in thing)
    return thing


def some_hand(chance, most_keys=8, most=4):
    keys = []
    for _ in range(chance.randint(0, most_keys)):
        kind = chance.choice((*KINDS, "write", "paste"))
        if kind == "paste":
            keys.append(("paste",))
        elif kind == "write":
            keys.append(("write", "".join(chance.choice("xyz") for _ in range(chance.randint(1, most)))))
        else:
            keys.append((kind, chance.randint(1, most)))
    return keys


def light_hand(chance, heaviest, most_keys=8, most=4):
    """A hand of no more than this weight."""
    keys = []
    for key in some_hand(chance, most_keys, most):
        if sum(1 if len(part) == 1 else part[1] if type(part[1]) is int else len(part[1])
               for part in keys + [key]) <= heaviest:
            keys.append(key)
    return keys


def some_play(chance, most_parts, most_times):
    play = []
    for _ in range(chance.randint(0, most_parts)):
        hand = chance.choice(([], some_hand(chance), light_hand(chance, 12), light_hand(chance, 12)))
        play.append((hand, chance.choice((0, 1, 2, 3, chance.randint(0, most_times)))))
    return play


def cut_up(play, chance):
    """The same play with more parts, and for each of these, of which part it was what pressings."""
    cut, parts = [], []
    for part, (hand, times) in enumerate(play):
        first = chance.choice((0, min(1, times), min(77, times), times // 3, chance.randint(0, times), times))
        cut += [(hand, first), (hand, times - first)]
        parts += [(part, 0), (part, first)]
    return cut, parts


def nearly_lengths():
    """Things that read as lengths are wrong in one thing only, and others."""
    return [
        *[thing for bad in (-1, True, None, "1", 1.0, [], "") for thing in
          ((bad, 1, 1), (1, bad, 1), (1, 1, bad))],
        (1, 1, 61), (1, 1, 10 ** 30), (1, 1), (1, 1, 1, 1), (), [], {0: 1, 1: 1, 2: 1}, "111",
        ((1, 1, 1),), [[1, 1, 1]], (1, (1, 1)), 3, {1, 2, 3}, range(3), b"abc",
    ]
