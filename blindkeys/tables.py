"""Tables: where each letter comes from that lies there behind one pressing of a hand."""

from blindkeys.errors import NoLengths, TooMany
from blindkeys.hands import NUMBERS, check_hand, do_key, reach, weigh
from blindkeys.kinds import LONGEST_WORD, is_row, is_whole, is_within

LONGEST_SIDE = 200
HEAVIEST_OF_TWO = 24


def is_lengths(thing):
    """Tell whether a thing is lengths, of any size."""
    if not is_row(thing) or len(thing) != 3:
        return False
    return is_whole(thing[0], 0) and is_whole(thing[1], 0) and is_within(thing[2], 0, LONGEST_WORD)


def check_lengths(thing):
    """Refuse what is no lengths."""
    if not is_lengths(thing):
        raise NoLengths("these are no lengths")


def check_near(thing):
    """Refuse what is no lengths by which a table is told."""
    check_lengths(thing)
    if max(thing[0], thing[1]) > LONGEST_SIDE:
        raise NoLengths("by lengths of more than 200 letters no table is told")


def check_light(hand):
    """Refuse a hand that is too heavy to be compared."""
    if weigh(hand) > HEAVIEST_OF_TWO:
        raise TooMany(weigh(hand))


def row_of(side, many):
    """Tell the sources of so many letters of a side or of the clip."""
    return [(side, deep) for deep in range(many)]


def sourced(hand):
    """Tell a hand's keys with the sources of the letters in the place of each word."""
    keys = []
    for number, key in enumerate(hand):
        if key[0] == "write":
            keys.append(("write", [("typed", number, at) for at in range(len(key[1]))]))
        else:
            keys.append(key)
    return keys


def trace(keys, lengths):
    """Tell what lies left, right and in the clip behind keys, each letter by its source.

    What a written word holds is told as it stands there: a letter, or its source.
    """
    left = row_of("left", lengths[0])
    right = row_of("right", lengths[1])
    held = row_of("clip", lengths[2])
    left.reverse()
    right.reverse()
    for key in keys:
        held = do_key(key, left, right, held)
    left.reverse()
    right.reverse()
    return left, right, held


def source_in(rows, near, spot):
    """Tell where the letter at a spot behind a pressing comes from.

    The rows are a trace by near lengths, beyond which a side may have more letters: of these
    each one stays where it lay.
    """
    side, deep = spot
    number = NUMBERS[side]
    row = rows[number]
    if deep < len(row):
        return row[deep]
    return side, deep - len(row) + near[number]


def all_lengths(many, lefts, rights):
    """Tell the lengths of so many letters in all by which two hands may first be unlike, rising.

    A clip is pasted left of the cursor, and paste weighs something itself: no letter with
    HEAVIEST_OF_TWO others behind it in the clip is ever reached, so that a longer clip only
    has more letters that lie there alike. Farther letters on a side lie there alike, too.
    """
    told = []
    for left in range(min(many, lefts) + 1):
        rest = many - left
        for right in range(max(0, rest - HEAVIEST_OF_TWO), min(rest, rights) + 1):
            told.append((left, right, rest - right))
    return told


def table(hand, lengths):
    """Tell where each letter comes from behind one pressing: left, right and in the clip."""
    check_hand(hand)
    check_near(lengths)
    return trace(sourced(hand), lengths)


def parting(hand, other):
    """Tell the least lengths by which two hands are not alike, or None."""
    check_hand(hand)
    check_hand(other)
    check_light(hand)
    check_light(other)
    lefts = max(reach(hand, "left"), reach(other, "left"))
    rights = max(reach(hand, "right"), reach(other, "right"))
    for many in range(lefts + rights + HEAVIEST_OF_TWO + 1):
        for lengths in all_lengths(many, lefts, rights):
            if trace(hand, lengths) != trace(other, lengths):
                return lengths
    return None
