"""The devices: what each remembers, and the script of what happens at which ask."""

from stretchcache.blocks import BLOCK_SIZE, is_block, overlaid, padded, trimmed

DEVICE_COUNT = 8

FAIL = 0
TAKEN = 1
GOES = 2
SICK = 3
ROT = 4
OFF = 5
# What no entry of a script says: it stands for an ask that has none.
NOTHING = 6

MASK_BITS = 64


class PowerGone(Exception):
    """The power went instead of the answer to an ask."""


class Device:
    """What one device remembers. Its blocks are lists that are replaced, never changed."""

    def __init__(self, size):
        self.size = size
        self.sure = {}
        self.on_way = []
        self.sick = {}
        self.gone = False

    def has_block(self, k):
        """Whether it has a block k."""
        return k < self.size

    def sure_block(self, k):
        """Its sure block k."""
        return self.sure.get(k, [])

    def block_now(self, k):
        """The last write of block k on its way, else the sure one."""
        for write in reversed(self.on_way):
            if write[0] == k:
                return write[1]
        return self.sure_block(k)

    def take(self, k, block):
        """The write is on its way."""
        self.on_way.append((k, trimmed(block)))

    def make_sure(self):
        """All that's on its way is sure."""
        for write in self.on_way:
            self.sure[write[0]] = write[1]
        self.on_way = []

    def rot(self, k, j, value):
        """What was written gets sure first, so that the rot can hit it."""
        self.make_sure()
        if self.has_block(k) and j < BLOCK_SIZE:
            block = padded(self.sure_block(k))
            block[j] = value % 256
            self.sure[k] = trimmed(block)

    def lose_power(self, mask, count):
        """Of the writes on their way those of the mask arrive, the last with its first count bytes."""
        arriving = [write for position, write in enumerate(self.on_way)
                    if (mask >> (position % MASK_BITS)) & 1 == 1]
        for position, write in enumerate(arriving):
            arrived = BLOCK_SIZE
            if position == len(arriving) - 1:
                arrived = count
            self.sure[write[0]] = overlaid(write[1], self.sure_block(write[0]), arrived)
        self.on_way = []


def fails(device, said):
    """Whether the device fails, whatever it's asked."""
    return device.gone or said == FAIL or said == TAKEN


class Devices:
    """All devices of a line, with the script and the count of the asks."""

    def __init__(self, sizes, script):
        self.each = [Device(size) for size in sizes]
        self.script = {}
        for entry in script:
            self.script.setdefault(entry[0], entry[1:])
        self.asks = 0

    def has_block(self, number, k):
        """Whether there's such a device, and it has a block k."""
        return number < len(self.each) and self.each[number].has_block(k)

    def power_off(self, mask, count):
        """The power goes, for all devices."""
        for device in self.each:
            device.lose_power(mask, count)
        raise PowerGone()

    def before_answer(self, device):
        """Counts an ask and lets happen what the script says of it; answers what that was."""
        entry = self.script.get(self.asks, [NOTHING])
        self.asks += 1
        said = entry[0]
        if said == GOES:
            device.gone = True
        elif said == SICK:
            device.sick[entry[1]] = True
        elif said == ROT:
            device.rot(entry[1], entry[2], entry[3])
        elif said == OFF:
            self.power_off(entry[1], entry[2])
        return said

    def read(self, number, k):
        """Asks the device to read its block k: the block, or None if it fails."""
        device = self.each[number]
        said = self.before_answer(device)
        if fails(device, said) or not device.has_block(k) or k in device.sick:
            return None
        return device.block_now(k)

    def write(self, number, k, block):
        """Asks the device to write its block k: whether it's done."""
        device = self.each[number]
        said = self.before_answer(device)
        if not device.has_block(k) or not is_block(block):
            return False
        if fails(device, said):
            if said == TAKEN and not device.gone:
                device.take(k, block)
            return False
        device.take(k, block)
        device.sick.pop(k, None)
        return True

    def flush(self, number):
        """Asks the device to flush: whether it's done."""
        device = self.each[number]
        said = self.before_answer(device)
        if fails(device, said):
            return False
        device.make_sure()
        return True
