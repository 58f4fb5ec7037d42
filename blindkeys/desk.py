"""The desk: hands by names and a bench, told by rows."""

from blindkeys.bench import Bench
from blindkeys.courses import course
from blindkeys.errors import NoName, NoRow
from blindkeys.hands import check_hand
from blindkeys.kinds import is_letters, is_plain
from blindkeys.rings import rings
from blindkeys.writing import keys_in, number_in, row_of_things

LONGEST_NAME = 8

# What stands behind the first word in rows of each kind; `hand` and `text` have forms of their own.
FORMS = {
    "press": ("name", "number"), "undo": (), "lengths": (), "letter": ("number",),
    "looks": ("number", "number"), "clip": (), "origin": ("number",), "course": ("name",),
    "rings": ("name",), "hands": (),
}
DEEDS = ("hand", "text", "press", "undo")


def is_name(word):
    """Tell whether a word may be a hand's name."""
    return is_letters(word) and len(word) <= LONGEST_NAME


def word_in(form, word):
    """Tell what a word tells as a name or a number, or None, where it is none."""
    if form == "number":
        return number_in(word)
    return word if is_name(word) else None


def words_in(kind, words):
    """Tell what the words behind a kind tell, or None, where these have no form."""
    if kind not in FORMS or len(words) != len(FORMS[kind]):
        return None
    things = [word_in(form, word) for form, word in zip(FORMS[kind], words)]
    return None if None in things else things


def hand_in(rest):
    """Tell the name and the keys that `NAME: HAND` tells, or None, where it has no form."""
    name, sign, row = rest.partition(": ")
    keys = keys_in(row)
    if not is_name(name) or sign == "" or keys is None:
        return None
    return name, keys


def piece_in(written):
    """Tell the piece that `WORD*TIMES` tells, or None, where it has no form."""
    word, _, figures = written.partition("*")
    times = number_in(figures)
    if not is_letters(word) or times is None:
        return None
    return word, times


def pieces_in(words):
    """Tell the pieces that words tell, or None, where these have no form."""
    if words == ["-"]:
        return []
    pieces = [piece_in(word) for word in words]
    return None if None in pieces else pieces


def stand_in(words):
    """Tell the stand that `CURSOR CLIP PIECES` tells, or None, where it has no form."""
    if len(words) < 3:
        return None
    cursor = number_in(words[0])
    clip = "" if words[1] == "-" else words[1]
    pieces = pieces_in(words[2:])
    if cursor is None or not is_plain(clip) or words[1] == "" or pieces is None:
        return None
    return pieces, cursor, clip


def read_row(row):
    """Tell a row's kind and what else it tells, and refuse what has no form."""
    if type(row) is not str:
        raise NoRow("this is no text")
    kind, _, rest = row.partition(" ")
    if kind == "hand":
        things = hand_in(rest)
    elif kind == "text":
        things = stand_in(rest.split(" "))
    else:
        things = words_in(kind, row.split(" ")[1:])
    if things is None:
        raise NoRow("this row has no form")
    return kind, things


class Desk:
    """Hands by their names, and a bench."""

    def __init__(self):
        self.hands = {}
        self.bench = Bench([])

    def say(self, row):
        """Do what a row tells, or answer it."""
        kind, things = read_row(row)
        if kind in DEEDS:
            self.do(kind, things)
            return "ok"
        if kind in ("course", "rings", "hands"):
            return self.tell_hands(kind, things)
        return self.tell_bench(kind, things)

    def hand_of(self, name):
        """Tell the hand of a name."""
        if name not in self.hands:
            raise NoName("no hand has this name")
        return self.hands[name]

    def do(self, kind, things):
        """Do a deed."""
        if kind == "hand":
            name, keys = things
            check_hand(keys)
            self.hands[name] = keys
        elif kind == "text":
            text, cursor, clip = things
            self.bench = Bench(text, cursor=cursor, clip=clip)
        elif kind == "press":
            name, times = things
            self.bench.press(self.hand_of(name), times=times)
        else:
            self.bench.undo()

    def tell_hands(self, kind, things):
        """Tell what is asked of hands."""
        if kind == "course":
            return row_of_things(course(self.hand_of(things[0]), self.bench.lengths()))
        if kind == "rings":
            return row_of_things(rings(self.hand_of(things[0]))) or "none"
        return row_of_things(sorted(self.hands)) or "none"

    def tell_bench(self, kind, things):
        """Tell what is asked of the bench."""
        if kind == "lengths":
            return row_of_things(self.bench.lengths())
        if kind == "letter":
            return self.bench.letter(things[0])
        if kind == "looks":
            return self.bench.looks(things[0], many=things[1]) or "-"
        if kind == "clip":
            return self.bench.clip() or "-"
        return row_of_things(self.bench.origin(things[0]))
