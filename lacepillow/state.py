"""The pillow as the calls leave it, one behind another."""

from lacepillow.limits import MOST_UNDONE

FIRST_PAIRS = 2


class Pillow:
    """What a pillow has, and what it had before each change that can be undone.

    A piece, a pattern or the patterns' dict is never changed itself: a change lays new ones
    in their place, so that what was before needs no copy.
    """

    def __init__(self):
        self.renew(FIRST_PAIRS)

    def renew(self, pairs):
        """Become a new pillow, of so many pairs."""
        self.pairs = pairs
        self.piece = []
        self.patterns = {}
        self.past = []

    def change(self, piece, patterns):
        """Make a change, though all be as before."""
        self.past.append((self.pairs, self.piece, self.patterns))
        self.past = self.past[-MOST_UNDONE:]
        self.piece = piece
        self.patterns = patterns

    def take_back_change(self):
        """Be as before the last change."""
        before = self.past.pop()
        self.pairs = before[0]
        self.piece = before[1]
        self.patterns = before[2]
