"""Pressing letter by letter, straight from the document, with a mark on each letter."""


class Marked:
    """A text of marks, its cursor and clip, and which keys were cut short in which pressing."""

    def __init__(self, words, cursor, clip):
        self.words, self.cursor, self.clip = list(words), cursor, list(clip)
        self.pressings, self.cuts = 0, []

    def press(self, hand, called=("typed",)):
        """Press once; what is typed is marked as called, with key and letter behind it."""
        for number, key in enumerate(hand):
            typed = [(*called, number, at) for at in range(len(key[1]))] if key[0] == "write" else []
            if not self.do(key, typed):
                self.cuts.append((self.pressings, number))
        self.pressings += 1

    def do(self, key, typed):
        """Do a key, and tell whether it was not cut short."""
        if key[0] in ("write", "paste"):
            for mark in typed if key[0] == "write" else list(self.clip):
                self.words.insert(self.cursor, mark)
                self.cursor += 1
            return True
        if key[0] in ("left", "rub"):
            return all([self.go_left(key[0]) for _ in range(key[1])])
        taken = []
        whole = all([self.go_right(key[0], taken) for _ in range(key[1])])
        if key[0] in ("copy", "cut"):
            self.clip = taken
        return whole

    def go_left(self, kind):
        if self.cursor == 0:
            return False
        self.cursor -= 1
        if kind == "rub":
            del self.words[self.cursor]
        return True

    def go_right(self, kind, taken):
        at = self.cursor + (len(taken) if kind == "copy" else 0)
        if at == len(self.words):
            return False
        if kind == "right":
            self.cursor += 1
        else:
            taken.append(self.words[at])
        if kind in ("strike", "cut"):
            del self.words[at]
        return True

    def lengths(self):
        return self.cursor, len(self.words) - self.cursor, len(self.clip)

    def rows(self):
        """What lies left and right, the nearest first, and in the clip."""
        return self.words[:self.cursor][::-1], self.words[self.cursor:], self.clip


def by_sources(lengths):
    """A text by lengths, each letter marked as a table tells it."""
    left, right, held = lengths
    words = [("left", deep) for deep in reversed(range(left))] + [("right", deep) for deep in range(right)]
    return Marked(words, left, [("clip", at) for at in range(held)])


def behind_play(play, lengths):
    """What lies behind a play, each letter marked by its origin."""
    left, right, held = lengths
    told = Marked([("first", place) for place in range(left + right)], left,
                  [("clip", at) for at in range(held)])
    for part, (hand, times) in enumerate(play):
        for pressing in range(times):
            told.press(hand, ("typed", part, pressing))
    return told


def ahead_of_each(hand, lengths, many):
    """The lengths ahead of so many pressings, and behind them, and the first cut in these."""
    told = by_sources(lengths)
    seen = [told.lengths()]
    for _ in range(many):
        told.press(hand)
        seen.append(told.lengths())
    return seen, told.cuts[0] if told.cuts else None


def plain_press(sheet, hand):
    """A sheet behind one pressing, done to plain texts."""
    words, cursor, clip = sheet
    for key in hand:
        left, right = words[:cursor], words[cursor:]
        if key[0] == "write":
            left += key[1]
        elif key[0] == "paste":
            left += clip
        elif key[0] in ("left", "rub"):
            kept = max(0, len(left) - key[1])
            right = (left[kept:] if key[0] == "left" else "") + right
            left = left[:kept]
        else:
            taken = right[:key[1]]
            right = right if key[0] == "copy" else right[key[1]:]
            left += taken if key[0] == "right" else ""
            clip = taken if key[0] in ("copy", "cut") else clip
        words, cursor = left + right, len(left)
    return words, cursor, clip


def plain_play(sheet, play):
    """A sheet behind a play, done to plain texts."""
    for hand, times in play:
        for _ in range(times):
            sheet = plain_press(sheet, hand)
    return sheet
