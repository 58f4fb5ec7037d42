"""Writing: hands and plays in rows of plain signs, and what is read back of them."""

from blindkeys.errors import NoWriting
from blindkeys.hands import SIDES, check_hand
from blindkeys.kinds import is_letters
from blindkeys.roads import check_play

FIGURES = "0123456789"

# No number of more figures than these is taken anywhere, so that they all may be read as one.
MOST_FIGURES = 40
TOO_GREAT = 10 ** 40


def number_in(written):
    """Tell the number that is written by figures, or None."""
    # What is left when figures are stripped from both ends begins with some other sign.
    if written == "" or written.strip(FIGURES) != "":
        return None
    if written[0] == "0" and written != "0":
        return None
    if len(written) > MOST_FIGURES:
        return TOO_GREAT
    return int(written)


def key_in(written):
    """Tell the key that is written, or None, where it has no form."""
    if written == "paste":
        return ("paste",)
    kind, _, rest = written.partition(" ")
    if kind == "write" and is_letters(rest):
        return kind, rest
    number = number_in(rest)
    if kind not in SIDES or number is None:
        return None
    return kind, number


def keys_in(row):
    """Tell the keys that are written in a row, or None, where it has no form."""
    if row == "":
        return []
    keys = [key_in(written) for written in row.split(", ")]
    return None if None in keys else keys


def part_in(row):
    """Tell the part of a play that is written in a row, or None, where it has no form."""
    figures, sign, rest = row.partition(": ")
    times = number_in(figures)
    keys = keys_in(rest)
    if sign == "" or times is None or keys is None:
        return None
    return keys, times


def check_written(thing):
    """Refuse what is no text at all."""
    if type(thing) is not str:
        raise NoWriting(None)


def row_of_things(things):
    """Write things with blanks between."""
    return " ".join([str(thing) for thing in things])


def row_of_keys(hand):
    """Write a hand's keys in a row."""
    return ", ".join([row_of_things(key) for key in hand])


def show_hand(hand):
    """Write a hand."""
    check_hand(hand)
    return row_of_keys(hand)


def show_play(play):
    """Write a play."""
    check_play(play)
    return "\n".join([f"{times}: {row_of_keys(hand)}" for hand, times in play])


def read_hand(text):
    """Read a hand back."""
    check_written(text)
    hand = keys_in(text)
    if hand is None:
        raise NoWriting(0)
    check_hand(hand)
    return hand


def read_play(text):
    """Read a play back."""
    check_written(text)
    rows = [] if text == "" else text.split("\n")
    play = [part_in(row) for row in rows]
    if None in play:
        raise NoWriting(play.index(None))
    check_play(play)
    return play
