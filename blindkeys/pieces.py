"""Texts that are told by pieces: (word, times), one behind the other."""

from blindkeys.errors import NoLetter, NoNumber, NoPlace, NoText
from blindkeys.kinds import is_letter, is_row, is_whole, is_within, is_word

MOST_PIECES = 40
MOST_LETTERS = 10 ** 30
LONGEST_LOOK = 2000

# Two rows of letters, each one word again and again, are one for ever if they are one for as
# many letters as both words have together: no two words have more than these.
TWO_WORDS = 120


def is_piece(thing):
    """Tell whether a thing is a word and how many times it stands there."""
    return is_row(thing) and len(thing) == 2 and is_word(thing[0]) and is_whole(thing[1], 1)


def is_text(thing):
    """Tell whether a thing is a text."""
    if not is_row(thing) or len(thing) > MOST_PIECES:
        return False
    many = 0
    for piece in thing:
        if not is_piece(piece):
            return False
        many += len(piece[0]) * piece[1]
    return many <= MOST_LETTERS


def check_text(thing):
    """Refuse what is no text."""
    if not is_text(thing):
        raise NoText("this is no text")


def check_letter(thing):
    """Refuse what is no letter."""
    if not is_letter(thing):
        raise NoLetter("this is no letter")


def spans_of(text):
    """Tell a text's pieces as tuples (start, stop, word): where each begins and where it ends."""
    spans = []
    start = 0
    for word, times in text:
        stop = start + len(word) * times
        spans.append((start, stop, word))
        start = stop
    return spans


def end_of(spans):
    """Tell how many letters all spans have together."""
    return spans[-1][1] if spans else 0


def stretch(word, at, many):
    """Tell so many letters of a word that stands there again and again, from number at on."""
    first = at % len(word)
    enough = word * ((first + many) // len(word) + 1)
    return enough[first:first + many]


def look(spans, place, many):
    """Tell how the spans look from a place on, so many letters, fewer where they end."""
    seen = []
    for start, stop, word in spans:
        low = max(start, place)
        high = min(stop, place + many)
        if low < high:
            seen.append(stretch(word, low - start, high - low))
    return "".join(seen)


def among(word, sign, many):
    """Tell how many of a letter are among the first so many of a word again and again."""
    words, rest = divmod(many, len(word))
    return word.count(sign) * words + word[:rest].count(sign)


def nth_again(word, sign, number):
    """Tell where the letter of this number is in a word again and again that has it."""
    places = [at for at in range(len(word)) if word[at] == sign]
    words, rest = divmod(number, len(places))
    return words * len(word) + places[rest]


def split_at(one, other):
    """Tell the first place at which two plain texts that are not one are unlike."""
    shorter = min(len(one), len(other))
    for at in range(shorter):
        if one[at] != other[at]:
            return at
    return shorter


def length(text):
    """Tell how many letters a text has."""
    check_text(text)
    return end_of(spans_of(text))


def letter(text, place):
    """Tell a text's letter at a place."""
    check_text(text)
    spans = spans_of(text)
    if not is_within(place, 0, end_of(spans) - 1):
        raise NoPlace("this is no place of the text")
    return look(spans, place, 1)


def looks(text, place, many):
    """Tell how a text looks from a place on, so many letters, fewer where it ends."""
    check_text(text)
    spans = spans_of(text)
    if not is_within(place, 0, end_of(spans)):
        raise NoPlace("this is no place of the text, nor its end")
    if not is_within(many, 0, LONGEST_LOOK):
        raise NoNumber("so many letters are not told at once")
    return look(spans, place, many)


def count(text, sign, many):
    """Tell how many of a letter are among a text's first so many."""
    check_text(text)
    check_letter(sign)
    spans = spans_of(text)
    if not is_within(many, 0, end_of(spans)):
        raise NoNumber("the text has not so many letters")
    told = 0
    for start, stop, word in spans:
        if start < many:
            told += among(word, sign, min(stop, many) - start)
    return told


def nth(text, sign, number):
    """Tell the place of the letter of this number, from 0 on, or None."""
    check_text(text)
    check_letter(sign)
    if not is_whole(number, 0):
        raise NoNumber("this is no whole number from 0 on")
    passed = 0
    for start, stop, word in spans_of(text):
        here = among(word, sign, stop - start)
        if number < passed + here:
            return start + nth_again(word, sign, number - passed)
        passed += here
    return None


def first_unlike(text, other):
    """Tell the first place at which two texts are unlike, or None, where they are one."""
    check_text(text)
    check_text(other)
    mine = spans_of(text)
    others = spans_of(other)
    low = 0
    # Between two such ends each text is one word again and again, or has ended.
    for high in sorted([span[1] for span in mine + others]):
        many = min(high - low, TWO_WORDS)
        one = look(mine, low, many)
        two = look(others, low, many)
        if one != two:
            return low + split_at(one, two)
        low = high
    return None
