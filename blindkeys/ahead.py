"""Backwards: of a seen text all first texts that come to it, or why there is none."""

from blindkeys.errors import NoLengths, NoSeen
from blindkeys.kinds import ALPHABET, is_plain, is_row, is_within
from blindkeys.roads import journey_of

LONGEST_AHEAD = 2000


def journey_to(play, lengths, seen):
    """Tell the journey to a seen text, and refuse what is no play, no lengths or can't be seen."""
    journey = journey_of(play, lengths)
    if lengths[0] + lengths[1] > LONGEST_AHEAD:
        raise NoLengths("of more than 2,000 letters nothing is told")
    if not is_plain(seen) or len(seen) != journey.size:
        raise NoSeen("this is no text that can be seen there")
    return journey


def origins_in(journey):
    """Tell the origins of all letters, from the left."""
    return [journey.origin_of(place) for place in range(journey.size)]


def is_mistyped(journey, mark, sign):
    """Tell whether a letter of this origin was typed, and as another one."""
    return mark[0] == "typed" and journey.typed_letter(mark) != sign


def paper_of(journey, marks, seen):
    """Tell ("unlike", ahead, place) of the first letter that can't be, or None."""
    firsts = {}
    for place, mark in enumerate(marks):
        if is_mistyped(journey, mark, seen[place]):
            return "unlike", None, place
        ahead = firsts.setdefault(mark, place)
        if seen[ahead] != seen[place]:
            return "unlike", ahead, place
    return None


def before(play, lengths, seen):
    """Tell ("from", words, clip): what the first text was, or ("unlike", ahead, place)."""
    journey = journey_to(play, lengths, seen)
    marks = origins_in(journey)
    paper = paper_of(journey, marks, seen)
    if paper is not None:
        return paper
    signs = dict(zip(marks, seen))
    words = [signs.get(("first", place)) for place in range(lengths[0] + lengths[1])]
    clip = [signs.get(("clip", at)) for at in range(lengths[2])]
    return "from", words, clip


def how_many_before(play, lengths, seen):
    """Tell how many first texts and clips come to a seen text."""
    told = before(play, lengths, seen)
    if told[0] == "unlike":
        return 0
    many = 1
    for sign in told[1] + told[2]:
        if sign is None:
            many = many * len(ALPHABET)
    return many


def is_paper(thing, size):
    """Tell whether a thing is ("unlike", ahead, place) of places of a text of this size."""
    if not is_row(thing) or len(thing) != 3 or not is_plain(thing[0]) or thing[0] != "unlike":
        return False
    if not is_within(thing[2], 0, size - 1):
        return False
    return thing[1] is None or is_within(thing[1], 0, thing[2] - 1)


def shows_none(play, lengths, seen, thing):
    """Tell whether a thing is a paper that shows that no first text comes to a seen one."""
    journey = journey_to(play, lengths, seen)
    if not is_paper(thing, journey.size):
        return False
    _, ahead, place = thing
    mark = journey.origin_of(place)
    if ahead is None:
        return is_mistyped(journey, mark, seen[place])
    return journey.origin_of(ahead) == mark and seen[ahead] != seen[place]
