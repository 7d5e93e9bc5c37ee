"""How calls are handed in: one list of numbers, the calls one behind another."""


class Call:
    """One call: its number, its whole numbers and its lists."""

    def __init__(self, number, numbers, lists):
        self.number = number
        self.numbers = numbers
        self.lists = lists


class Reader:
    """Goes through the numbers that were handed in. What it gives are copies."""

    def __init__(self, handed):
        self.handed = handed
        self.position = 0

    def at_end(self):
        """Whether all numbers were read."""
        return self.position >= len(self.handed)

    def one(self):
        """The next number."""
        number = self.handed[self.position]
        self.position += 1
        return number

    def row(self):
        """The next numbers, behind their count."""
        count = self.one()
        start = self.position
        self.position += count
        return self.handed[start:self.position]

    def call(self):
        """The next call."""
        number = self.one()
        numbers = self.row()
        count = self.one()
        lists = [self.row() for turn in range(count)]
        return Call(number, numbers, lists)


def parsed(handed):
    """The calls, in order."""
    reader = Reader(handed)
    calls = []
    while not reader.at_end():
        calls.append(reader.call())
    return calls
