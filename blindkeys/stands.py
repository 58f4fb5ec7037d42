"""Stands: texts with a cursor and a clip, and what stands there behind a play."""

from blindkeys.errors import NoNumber, NoPlace, NoStand
from blindkeys.kinds import is_clip, is_row, is_within
from blindkeys.pieces import LONGEST_LOOK, end_of, is_text, look, spans_of
from blindkeys.roads import Journey, check_place, check_play, spot_of


def is_stand(thing):
    """Tell whether a thing is a stand."""
    if not is_row(thing) or len(thing) != 3 or not is_text(thing[0]):
        return False
    return is_within(thing[1], 0, end_of(spans_of(thing[0]))) and is_clip(thing[2])


def check_stand(thing):
    """Refuse what is no stand."""
    if not is_stand(thing):
        raise NoStand("this is no stand")


def lengths_of(stand):
    """Tell a stand's lengths."""
    text, cursor, clip = stand
    return cursor, end_of(spans_of(text)) - cursor, len(clip)


class Scene:
    """What stands there behind a play that was done to a stand."""

    def __init__(self, stand, play):
        self.spans = spans_of(stand[0])
        self.held = stand[2]
        self.journey = Journey(play, lengths_of(stand))
        self.there = self.journey.there
        self.size = self.journey.size

    def letter_at(self, spot):
        """Tell the letter at a spot."""
        mark = self.journey.origin_at(spot)
        if mark[0] == "first":
            return look(self.spans, mark[1], 1)
        if mark[0] == "clip":
            return self.held[mark[1]]
        return self.journey.typed_letter(mark)

    def letters(self, place, many):
        """Tell so many letters from a place on, fewer where the text ends."""
        places = range(place, min(place + many, self.size))
        return "".join([self.letter_at(spot_of(self.there, now)) for now in places])


def scene_of(stand, play):
    """Tell what stands there behind a play, and refuse what is no stand or no play."""
    check_stand(stand)
    check_play(play)
    return Scene(stand, play)


def check_stretch(scene, place, many):
    """Refuse a stretch that is not told at once."""
    if not is_within(place, 0, scene.size):
        raise NoPlace("this is no place there, nor the end")
    if not is_within(many, 0, LONGEST_LOOK):
        raise NoNumber("so many letters are not told at once")


def size_behind(stand, play):
    """Tell how many letters there are behind a play, and the cursor."""
    scene = scene_of(stand, play)
    return scene.size, scene.there[0]


def letter_behind(stand, play, place):
    """Tell the letter at a place behind a play."""
    scene = scene_of(stand, play)
    check_place(place, scene.there)
    return scene.letter_at(spot_of(scene.there, place))


def looks_behind(stand, play, place, *, many=60):
    """Tell how the text looks behind a play from a place on, so many letters."""
    scene = scene_of(stand, play)
    check_stretch(scene, place, many)
    return scene.letters(place, many)


def clip_behind(stand, play):
    """Tell the clip behind a play."""
    scene = scene_of(stand, play)
    return "".join([scene.letter_at(("clip", deep)) for deep in range(scene.there[2])])


def look_alike(stand, play, other, then, place, many):
    """Tell whether two stands behind their plays have the same letters on a stretch."""
    one = scene_of(stand, play)
    two = scene_of(other, then)
    check_stretch(one, place, many)
    return one.letters(place, many) == two.letters(place, many)
