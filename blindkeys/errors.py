"""The refusals: each one an error of its own class, all of them under KeysError."""


class KeysError(ValueError):
    """Any refusal."""


class NoText(KeysError):
    """What was handed in is no text."""


class NoPlace(KeysError):
    """What was handed in is no place there."""


class NoNumber(KeysError):
    """What was handed in is no number that is taken there."""


class NoLetter(KeysError):
    """What was handed in is no letter."""


class NoHand(KeysError):
    """What was handed in is no hand."""


class NoSheet(KeysError):
    """What was handed in is no sheet."""


class NoTimes(KeysError):
    """What was handed in is no number of pressings that is taken there."""


class NoLengths(KeysError):
    """What was handed in are no lengths."""


class NoPlay(KeysError):
    """What was handed in is no play."""


class NoStand(KeysError):
    """What was handed in is no stand."""


class NoRings(KeysError):
    """What was handed in are no lengths of rings."""


class NoSeen(KeysError):
    """What was handed in is no text that can be seen there."""


class Full(KeysError):
    """No further part has room."""


class Nothing(KeysError):
    """There is nothing to undo."""


class NoRow(KeysError):
    """What was handed in is no row of any form."""


class NoName(KeysError):
    """What was handed in is a name of no hand."""


class TooMany(KeysError):
    """There are more than are told: `many` keeps how many."""

    def __init__(self, many):
        super().__init__("these are too many")
        self.many = many


class NoWriting(KeysError):
    """What was handed in is no writing: `line` keeps the row that has no form, or None."""

    def __init__(self, line):
        super().__init__("this is no such writing")
        self.line = line
