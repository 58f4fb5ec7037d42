"""What kind a thing is: the questions that every stage asks of what is handed in.

They are asked by `type(..)`, not by `isinstance(..)`: no code of the thing itself runs then,
so that an answer is told of anything at all, and a truth is no whole number.
"""

ALPHABET = "abcdefghijklmnopqrstuvwxyz"
LONGEST_WORD = 60


def is_row(thing):
    """Tell whether a thing is a list, or a tuple in the place of one."""
    return type(thing) in (list, tuple)


def is_whole(thing, low):
    """Tell whether a thing is a whole number from low on."""
    return type(thing) is int and thing >= low


def is_within(thing, low, high):
    """Tell whether a thing is a whole number from low to high."""
    return is_whole(thing, low) and thing <= high


def is_plain(thing):
    """Tell whether a thing is a plain text of none or more letters."""
    # What is left when letters are stripped from both ends begins with some other sign.
    return type(thing) is str and thing.strip(ALPHABET) == ""


def is_letters(thing):
    """Tell whether a thing is a plain text of one or more letters."""
    return is_plain(thing) and thing != ""


def is_letter(thing):
    """Tell whether a thing is one letter."""
    return is_plain(thing) and len(thing) == 1


def is_clip(thing):
    """Tell whether a thing is a plain text that a clip may hold."""
    return is_plain(thing) and len(thing) <= LONGEST_WORD


def is_word(thing):
    """Tell whether a thing is a word."""
    return is_clip(thing) and thing != ""
