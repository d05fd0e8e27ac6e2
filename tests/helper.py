"""How the tests tell calls and read answers."""

from lacepillow.pillow import answers

BIGGEST = 4294967295
NO_NAMES = ("pairs", "let", "do", "row", "twist", "cross", "repeat", "end", "c", "t", "l", "r")


def codes(text):
    return list(text.encode("latin-1")) if isinstance(text, str) else list(text)


def call(number, numbers, lists):
    told = [number, len(numbers)] + list(numbers) + [len(lists)]
    for one in lists:
        told += [len(one)] + list(one)
    return told


def begin(pairs):
    return call(0, [pairs], [])


def put(name, text):
    return call(1, [], [codes(name), codes(text)])


def pins(name, pricked):
    return call(2, [], [codes(name)] + list(pricked))


def keep(name):
    return call(3, [], [codes(name)])


def drop(name):
    return call(4, [], [codes(name)])


def work(acts):
    return call(5, [], [acts])


def workby(name, times):
    return call(6, [times], [codes(name)])


def back(acts):
    return call(7, [], [acts])


def mend(name):
    return call(8, [], [codes(name)])


def undo():
    return call(9, [], [])


def flat(calls):
    return [number for one in calls for number in one]


def split(given):
    parts = []
    place = 0
    while place < len(given):
        count = given[place]
        parts.append(given[place + 1:place + 1 + count])
        place += 1 + count
    return parts


def told(*calls):
    """The answer of each call."""
    return split(answers(flat(calls)))


def last(*calls):
    """The answer of the last call."""
    return told(*calls)[-1]


def piece_is(acts, *calls):
    """Whether the piece behind these calls is the lace of these acts."""
    return last(*calls, back(acts)) == [0, 0]


def pattern_is(name, acts, *calls):
    """Whether the pattern behind these calls is the lace of these acts."""
    return last(*calls, mend(name), back(acts)) == [0, 0]


def lines(*rows):
    return "".join(row + "\n" for row in rows)
