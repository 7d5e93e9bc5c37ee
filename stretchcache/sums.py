"""The sum of a block at a place: CRC-64 over the bytes of the place, then of the block."""

from stretchcache.blocks import padded

ALL_ONES = 0xFFFFFFFFFFFFFFFF
POLYNOMIAL = 0xC96C5795D7870F42


def halved_eight_times(byte):
    """What eight halvings, with the polynomial for each odd one, make of a byte."""
    c = byte
    for turn in range(8):
        if c % 2 == 1:
            c = (c // 2) ^ POLYNOMIAL
        else:
            c = c // 2
    return c


def place_bytes(place):
    """The eight bytes of a place, the lowest first."""
    return [(place >> (8 * position)) & 255 for position in range(8)]


class Sums:
    """Tells sums. The table is there because eight halvings for each byte would be slow."""

    def __init__(self):
        self.table = [halved_eight_times(byte) for byte in range(256)]

    def over(self, data):
        """The CRC-64 of these bytes."""
        c = ALL_ONES
        for byte in data:
            c = (c >> 8) ^ self.table[(c ^ byte) & 255]
        return c ^ ALL_ONES

    def at_place(self, place, block):
        """The sum of the block at the place."""
        return self.over(place_bytes(place) + padded(block))
