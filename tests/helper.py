"""How the tests tell calls and read answers."""

from lacepillow.pillow import answers

BIGGEST = 4294967295
NO_NAMES = ("pairs", "let", "do", "row", "twist", "cross", "repeat", "end", "c", "t", "l", "r")


def codes(text):
    return list(text.encode("latin-1")) if isinstance(text, str) else list(text)


def call(number, numbers, lists):
    told = [number, len(numbers)] + list(numbers) + [len(lists)]
    for one in lists:
        told += [len(one)] + list(one)
    return told


def begin(pairs):
    return call(0, [pairs], [])


def put(name, text):
    return call(1, [], [codes(name), codes(text)])


def pins(name, pricked):
    return call(2, [], [codes(name)] + list(pricked))


def keep(name):
    return call(3, [], [codes(name)])


def drop(name):
    return call(4, [], [codes(name)])


def work(acts):
    return call(5, [], [acts])


def workby(name, times):
    return call(6, [times], [codes(name)])


def back(acts):
    return call(7, [], [acts])


def mend(name):
    return call(8, [], [codes(name)])


def undo():
    return call(9, [], [])


def redo():
    return call(10, [], [])


def pairs():
    return call(11, [], [])


def names():
    return call(12, [], [])


def piece():
    return call(13, [], [])


def pattern(name):
    return call(14, [], [codes(name)])


def check(name):
    return call(15, [], [codes(name)])


def coming(name):
    """The call next."""
    return call(16, [], [codes(name)])


def save():
    return call(17, [], [])


def load(bytes_of_pillow):
    return call(18, [], [list(bytes_of_pillow)])


def flat(calls):
    return [number for one in calls for number in one]


def split(given):
    parts = []
    place = 0
    while place < len(given):
        count = given[place]
        parts.append(given[place + 1:place + 1 + count])
        place += 1 + count
    return parts


def told(*calls):
    """The answer of each call."""
    return split(answers(flat(calls)))


def last(*calls):
    """The answer of the last call."""
    return told(*calls)[-1]


def piece_is(acts, *calls):
    """Whether the piece behind these calls is the lace of these acts."""
    return last(*calls, back(acts)) == [0, 0] and last(*calls, piece()) == [0] + first_working(acts)


def pattern_is(name, acts, *calls):
    """Whether the pattern behind these calls is the lace of these acts."""
    return last(*calls, mend(name), back(acts)) == [0, 0] and last(*calls, pattern(name)) == [0] + first_working(acts)


def lines(*rows):
    return "".join(row + "\n" for row in rows)


def places(act):
    return {2 * act, 2 * act + 1} if act < 64 else {2 * (act - 64) + 1, 2 * (act - 64) + 2}


def same_laces(acts):
    """All workings that are this lace, by changing about again and again."""
    seen = {tuple(acts)}
    todo = [tuple(acts)]
    while todo:
        one = todo.pop()
        for k in range(len(one) - 1):
            if not places(one[k]) & places(one[k + 1]):
                other = one[:k] + (one[k + 1], one[k]) + one[k + 2:]
                if other not in seen:
                    seen.add(other)
                    todo.append(other)
    return seen


def can_be_first(acts):
    """Where the acts stand that can be brought to the front."""
    held = set()
    found = []
    for k, act in enumerate(acts):
        if not places(act) & held:
            found.append(k)
        held |= places(act)
    return found


def first_working(acts):
    """The form, act by act: always the least that can be the next one."""
    rest = list(acts)
    first = []
    while rest:
        first.append(rest.pop(min(can_be_first(rest), key=lambda k: rest[k])))
    return first


def count_bytes(count):
    """A number of acts in four bytes, the lowest first."""
    return list(count.to_bytes(4, "little"))


def saved(n, acts, patterns=()):
    """The bytes of a pillow; patterns are names with acts, told as they are given here."""
    told_bytes = [76, 67, 80, 49, n, len(patterns)] + count_bytes(len(acts)) + list(acts)
    for name, laid in patterns:
        told_bytes += [len(name)] + codes(name) + count_bytes(len(laid)) + list(laid)
    return told_bytes
