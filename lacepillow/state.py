"""The pillow as the calls leave it, one behind another."""

from lacepillow.limits import MOST_UNDONE
from lacepillow.words import text_of

FIRST_PAIRS = 2


class Pillow:
    """What a pillow has, what it had before each change that can be undone, and what was undone.

    A piece, a pattern or the patterns' dict is never changed itself: a change lays new ones
    in their place, so that what was before needs no copy.
    """

    def __init__(self):
        self.renew(FIRST_PAIRS)

    def renew(self, pairs):
        """Become a new pillow, of so many pairs."""
        self.become((pairs, [], {}))
        self.past = []
        self.undone = []

    def as_it_is(self):
        """All that the pillow has: its pairs, its piece, its patterns."""
        return (self.pairs, self.piece, self.patterns)

    def become(self, had):
        """Have what a pillow had."""
        self.pairs = had[0]
        self.piece = had[1]
        self.patterns = had[2]

    def change(self, pairs, piece, patterns):
        """Make a change, though all be as before."""
        self.past.append(self.as_it_is())
        self.past = self.past[-MOST_UNDONE:]
        self.undone = []
        self.become((pairs, piece, patterns))

    def undo_change(self):
        """Be as before the last change."""
        self.undone.append(self.as_it_is())
        self.become(self.past.pop())

    def redo_change(self):
        """Be as before the last undo."""
        self.past.append(self.as_it_is())
        self.become(self.undone.pop())

    def pattern_under(self, name):
        """The pattern of this name, told as bytes, or None."""
        return self.patterns.get(text_of(name))
