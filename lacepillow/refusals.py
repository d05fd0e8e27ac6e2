"""The number of each refusal, and the one that stands in its place where nothing is refused."""

DONE = 0
WRONG = -1
ABSENT = -2
TAKEN = -3
FAULTY = -5
UNFIT = -6
FULL = -9
