"""The pool: mirrors of devices, the places in them, and what the cache has of it."""

from stretchcache.devices import DEVICE_COUNT

SLOT_COUNT = 8
FEWEST_BLOCKS = 16
MOST_BLOCKS = 65536
MOST_IN_MIRROR = 3

GOOD = 0
BEING_FILLED = 1
OUT = 2


def is_pool(block_count, mirrors):
    """Whether there's a pool of these mirrors, of so many blocks each."""
    if block_count < FEWEST_BLOCKS or block_count > MOST_BLOCKS or len(mirrors) == 0:
        return False
    seen = []
    for mirror in mirrors:
        if len(mirror) == 0 or len(mirror) > MOST_IN_MIRROR:
            return False
        for number in mirror:
            if number >= DEVICE_COUNT or number in seen:
                return False
            seen.append(number)
    return True


class Pool:
    """The devices in their mirrors, and how the pool counts each: good, being filled or out."""

    def __init__(self, devices, sums, block_count, mirrors):
        self.devices = devices
        self.sums = sums
        self.mirrors = mirrors
        self.place_count = len(mirrors) * (block_count - SLOT_COUNT)
        self.states = {}
        for mirror in mirrors:
            for number in mirror:
                self.states[number] = GOOD

    def has_device(self, number):
        """Whether one of its mirrors has the device."""
        return number in self.states

    def count_as(self, number, state):
        """Counts the device as good, being filled or out from now on."""
        self.states[number] = state

    def is_place(self, place):
        """Whether there's such a place."""
        return place < self.place_count

    def mirror_of(self, place):
        """The devices of the place's mirror."""
        return self.mirrors[place % len(self.mirrors)]

    def block_of(self, place):
        """Which block of each of its devices the place is."""
        return SLOT_COUNT + place // len(self.mirrors)

    def put(self, number, k, block):
        """Puts the block to the device: whether it was given it. One that fails twice is out."""
        if self.devices.write(number, k, block) or self.devices.write(number, k, block):
            return True
        self.count_as(number, OUT)
        return False

    def flush(self, number):
        """Flushes the device. One that fails twice is out."""
        if not self.devices.flush(number) and not self.devices.flush(number):
            self.count_as(number, OUT)

    def read(self, place, wanted):
        """The block at the place that has the sum wanted; None if no good device answers it."""
        if not self.is_place(place):
            return None
        k = self.block_of(place)
        asked = []
        for number in self.mirror_of(place):
            if self.states[number] == GOOD:
                block = self.devices.read(number, k)
                if block is not None and self.sums.at_place(place, block) == wanted:
                    self.mend(asked, k, block)
                    return block
                asked.append(number)
        return None

    def mend(self, numbers, k, block):
        """Puts the block to each of these devices."""
        for number in numbers:
            self.put(number, k, block)

    def written(self, place, block):
        """Puts the block to all that aren't out: whether a good one was given it."""
        k = self.block_of(place)
        given = False
        for number in self.mirror_of(place):
            if self.states[number] != OUT and self.put(number, k, block):
                given = given or self.states[number] == GOOD
        return given

    def flushed(self):
        """Flushes all that aren't out: whether each mirror has a good device then."""
        for mirror in self.mirrors:
            for number in mirror:
                if self.states[number] != OUT:
                    self.flush(number)
        return all([self.has_good(mirror) for mirror in self.mirrors])

    def has_good(self, mirror):
        """Whether one of the mirror's devices is good."""
        return any([self.states[number] == GOOD for number in mirror])
