"""The calls as they are told in one list of numbers."""


class Call:
    """One call: its number, its whole numbers and its lists."""

    def __init__(self, number, numbers, lists):
        self.number = number
        self.numbers = numbers
        self.lists = lists


class Teller:
    """A list that is told from its beginning on."""

    def __init__(self, told):
        self.told = told
        self.place = 0

    def is_over(self):
        """Whether all was told."""
        return self.place >= len(self.told)

    def one_number(self):
        """The next number."""
        self.place = self.place + 1
        return self.told[self.place - 1]

    def counted_numbers(self):
        """The next numbers, before which it's told how many they are."""
        count = self.one_number()
        start = self.place
        self.place = start + count
        return self.told[start:self.place]

    def one_call(self):
        """The next call."""
        number = self.one_number()
        numbers = self.counted_numbers()
        lists = []
        for turn in range(self.one_number()):
            lists.append(self.counted_numbers())
        return Call(number, numbers, lists)


def read_calls(told):
    """All calls of the list, in order."""
    teller = Teller(told)
    calls = []
    while not teller.is_over():
        calls.append(teller.one_call())
    return calls
