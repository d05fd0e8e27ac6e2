"""How many there may be of what a pillow has."""

MOST_PAIRS = 32
MOST_ACTS = 512
MOST_PATTERNS = 8
MOST_PINS = 64
MOST_UNDONE = 16
MOST_BYTES = 16384
