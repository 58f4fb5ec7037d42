"""Hands: rows of keys, and what they do to a sheet when they are pressed."""

from blindkeys.errors import NoHand, NoSheet, NoTimes
from blindkeys.kinds import is_clip, is_plain, is_row, is_whole, is_within, is_word

HEAVIEST = 60
MOST_TIMES = 300

# The side on which a key needs letters, for each key that can be cut short.
SIDES = {
    "left": "left", "rub": "left",
    "right": "right", "strike": "right", "copy": "right", "cut": "right",
}

# Where lengths, and tables, have what belongs to each side and to the clip.
NUMBERS = {"left": 0, "right": 1, "clip": 2}


def is_key(thing):
    """Tell whether a thing is a key, of whatever weight."""
    if not is_row(thing) or len(thing) == 0 or not is_plain(thing[0]):
        return False
    if thing[0] == "paste":
        return len(thing) == 1
    if len(thing) != 2:
        return False
    if thing[0] == "write":
        return is_word(thing[1])
    return thing[0] in SIDES and is_whole(thing[1], 1)


def key_weight(key):
    """Tell what a key weighs."""
    if key[0] == "paste":
        return 1
    if key[0] == "write":
        return len(key[1])
    return key[1]


def weigh(keys):
    """Tell what keys weigh together."""
    return sum([key_weight(key) for key in keys])


def is_hand(thing):
    """Tell whether a thing is a hand."""
    # No key weighs nothing, so that a longer row is too heavy, too.
    if not is_row(thing) or len(thing) > HEAVIEST:
        return False
    return all([is_key(key) for key in thing]) and weigh(thing) <= HEAVIEST


def check_hand(thing):
    """Refuse what is no hand."""
    if not is_hand(thing):
        raise NoHand("this is no hand")


def is_sheet(thing):
    """Tell whether a thing is a sheet."""
    if not is_row(thing) or len(thing) != 3 or not is_plain(thing[0]):
        return False
    return is_within(thing[1], 0, len(thing[0])) and is_clip(thing[2])


def check_sheet(thing):
    """Refuse what is no sheet."""
    if not is_sheet(thing):
        raise NoSheet("this is no sheet")


def nearest(side, many):
    """Tell the so many letters of a side that are nearest to the cursor, the nearest first."""
    near = side[-many:]
    near.reverse()
    return near


def take(side, many):
    """Take the so many nearest letters from a side, and tell them, the nearest first."""
    near = nearest(side, many)
    del side[-many:]
    return near


def do_key(key, left, right, held):
    """Do one key to the letters left and right of the cursor, and tell the clip behind it.

    Both sides have their nearest letter last, where a list is quickly changed; a slice of
    more letters than a side has is the whole side, which is just what a key cut short takes.
    """
    kind = key[0]
    if kind == "write":
        left.extend(list(key[1]))
    elif kind == "paste":
        left.extend(held)
    elif kind == "left":
        right.extend(take(left, key[1]))
    elif kind == "right":
        left.extend(take(right, key[1]))
    elif kind == "rub":
        take(left, key[1])
    elif kind == "strike":
        take(right, key[1])
    elif kind == "copy":
        return nearest(right, key[1])
    else:
        return take(right, key[1])
    return held


def weight(hand):
    """Tell what a hand weighs."""
    check_hand(hand)
    return weigh(hand)


def press(sheet, hand, *, times=1):
    """Tell the sheet behind so many pressings of a hand."""
    check_sheet(sheet)
    check_hand(hand)
    if not is_within(times, 0, MOST_TIMES):
        raise NoTimes("this is no number of pressings from 0 to 300")
    words, cursor, clip = sheet
    left = list(words[:cursor])
    right = list(words[cursor:])
    right.reverse()
    held = list(clip)
    for _ in range(times):
        for key in hand:
            held = do_key(key, left, right, held)
    right.reverse()
    return "".join(left + right), len(left), "".join(held)


def go(key, lengths):
    """Tell the lengths (left, right, held) behind one key, which are all that it hangs on."""
    left, right, held = lengths
    kind = key[0]
    if kind == "write":
        return left + len(key[1]), right, held
    if kind == "paste":
        return left + held, right, held
    many = min(key[1], lengths[NUMBERS[SIDES[kind]]])
    if kind == "left":
        return left - many, right + many, held
    if kind == "right":
        return left + many, right - many, held
    if kind == "rub":
        return left - many, right, held
    if kind == "strike":
        return left, right - many, held
    if kind == "copy":
        return left, right, many
    return left, right - many, many


def needed(hand, side, lengths):
    """Tell how many letters a side needs for no key to be cut short there.

    The lengths that are handed in have as many there as a hand may weigh: these suffice.
    """
    least = HEAVIEST
    for key in hand:
        if SIDES.get(key[0]) == side:
            least = min(least, lengths[NUMBERS[side]] - key[1])
        lengths = go(key, lengths)
    return HEAVIEST - least


def reach(hand, side):
    """Tell a hand's reach on one side."""
    # A letter more on the other side or in the clip never leaves fewer letters on this one, so
    # that none there is the worst case.
    if side == "left":
        return needed(hand, side, (HEAVIEST, 0, 0))
    return needed(hand, side, (0, HEAVIEST, 0))


def reaches(hand):
    """Tell a hand's reaches: how many letters left and right of the cursor always suffice."""
    check_hand(hand)
    return reach(hand, "left"), reach(hand, "right")
