"""What the tests share: calls as they are handed in, answers taken apart, and asks watched."""

from stretchcache.calls import parsed
from stretchcache.devices import Devices
from stretchcache.house import House, answers

FAIL, TAKEN, GOES, SICK, ROT, OFF = range(6)
ALL = 2 ** 64 - 1
SIZES = [128] * 8


def lists(rows):
    flat = [len(rows)]
    for row in rows:
        flat += [len(row), *row]
    return flat


def devices(*script, sizes=SIZES):
    return [10, 0, *lists([sizes, *script])]


def begin(blocks, *mirrors):
    return [0, 1, blocks, *lists(mirrors)]


def read_sum(place, total):
    return [1, 2, place, total, 0]


def read(place, data):
    return read_sum(place, sum_at(place, data))


def write(place, data):
    return [2, 1, place, *lists([data])]


def barrier():
    return [3, 0, 0]


def sync():
    return [4, 0, 0]


def forget(place):
    return [5, 1, place, 0]


def tell():
    return [6, 0, 0]


def total(place, data):
    """The call sum."""
    return [7, 1, place, *lists([data])]


def state(number, s):
    return [8, 2, number, s, 0]


def block(number, k):
    return [9, 2, number, k, 0]


def writes(places, mark=1):
    """A write for each place, of a block that tells the place and the mark."""
    return [write(place, marked(place, mark)) for place in places]


def marked(place, mark=1):
    return [place % 256, mark]


def found(data):
    """What a read answers that finds this block (told without the zeros at its end)."""
    return [len(data), *data]


def kept(clean, *dirty):
    """What told answers for these clean places, and these dirty stretches with their places."""
    return [len(clean), *clean, *flat(dirty)]


def held(now, sure):
    """What block answers for a block that has these bytes now, and these that are sure."""
    return [len(now), *now, *sure]


def flat(calls):
    return [number for call in calls for number in call]


def split(given):
    told = []
    at = 0
    while at < len(given):
        told.append(given[at + 1:at + 1 + given[at]])
        at += 1 + given[at]
    return told


def run(*calls):
    """The answers of a line, but the one to devices."""
    told = split(answers(flat(calls)))
    assert len(told) == len(calls), (len(told), len(calls))
    return told[1:]


def sum_at(place, data):
    """The sum as the document tells it, bit by bit."""
    c = 2 ** 64 - 1
    for byte in list(place.to_bytes(8, "little")) + data + [0] * (1024 - len(data)):
        c ^= byte
        for _ in range(8):
            c = c // 2 ^ (0xC96C5795D7870F42 if c % 2 else 0)
    return c ^ (2 ** 64 - 1)


class WatchedDevices(Devices):
    """Devices that tell what was asked of them."""

    def __init__(self, sizes, script):
        super().__init__(sizes, script)
        self.log = []

    def read(self, number, k):
        self.log.append(("read", number, k))
        return super().read(number, k)

    def write(self, number, k, block):
        self.log.append(("write", number, k, block))
        return super().write(number, k, block)

    def flush(self, number):
        self.log.append(("flush", number))
        return super().flush(number)


class Watched:
    """A line whose asks are seen."""

    def __init__(self, *script, sizes=SIZES):
        self.house = House(sizes, list(script))
        self.house.devices = WatchedDevices(sizes, list(script))

    def ask(self, *calls):
        """The answers to these calls."""
        return [self.house.answer(call) for call in parsed(flat(calls))]

    def asks(self):
        """What was asked since this was called last."""
        log = self.house.devices.log
        self.house.devices.log = []
        return log

    def clean_places(self):
        return list(self.house.cache.clean)

    def dirty_keys(self):
        return list(self.house.cache.dirty)

    def state(self, number):
        return self.house.cache.pool.states[number]
