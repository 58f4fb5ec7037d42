"""A bench: a stand, and a play that is done to it part by part and may be undone."""

from blindkeys.courses import check_times
from blindkeys.errors import Full, Nothing
from blindkeys.hands import check_hand
from blindkeys.roads import MOST_PARTS, after, origin
from blindkeys.stands import check_stand, clip_behind, lengths_of, letter_behind, looks_behind


class Bench:
    """A stand, and the play that was done to it."""

    def __init__(self, text, *, cursor=0, clip=""):
        check_stand((text, cursor, clip))
        self.stand = ([tuple(piece) for piece in text], cursor, clip)
        self.parts = []

    def press(self, hand, *, times=1):
        """Press a hand so many times."""
        check_hand(hand)
        check_times(times)
        if len(self.parts) == MOST_PARTS:
            raise Full("twelve parts were done")
        self.parts.append(([tuple(key) for key in hand], times))

    def undo(self):
        """Undo the last part."""
        if len(self.parts) == 0:
            raise Nothing("there is nothing to undo")
        self.parts.pop()

    def play(self):
        """Tell the play that was done."""
        return [(list(hand), times) for hand, times in self.parts]

    def lengths(self):
        """Tell the lengths."""
        return after(self.parts, lengths_of(self.stand))

    def letter(self, place):
        """Tell the letter at a place."""
        return letter_behind(self.stand, self.parts, place)

    def looks(self, place, *, many=60):
        """Tell how the text looks from a place on, so many letters."""
        return looks_behind(self.stand, self.parts, place, many=many)

    def clip(self):
        """Tell the clip."""
        return clip_behind(self.stand, self.parts)

    def origin(self, place):
        """Tell where the letter at a place comes from."""
        return origin(self.parts, lengths_of(self.stand), place)

    def twin(self):
        """Tell another bench on which the same was done."""
        text, cursor, clip = self.stand
        other = Bench(text, cursor=cursor, clip=clip)
        # What a part holds is never changed, so that both may have it.
        other.parts = list(self.parts)
        return other

    def __len__(self):
        return len(self.parts)
