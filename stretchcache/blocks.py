"""A block: 1024 bytes, told by its first ones, without the zeros at its end."""

BLOCK_SIZE = 1024


def is_block(data):
    """Whether these numbers tell a block."""
    return len(data) <= BLOCK_SIZE and all([byte <= 255 for byte in data])


def trimmed(data):
    """The bytes up to the last that isn't 0."""
    end = len(data)
    while end > 0 and data[end - 1] == 0:
        end -= 1
    return data[:end]


def padded(block):
    """All bytes of a block, in a list of their own."""
    return block + [0] * (BLOCK_SIZE - len(block))


def overlaid(block, under, count):
    """The block that has its first count bytes from block, and the others from under."""
    return trimmed(padded(block)[:count] + padded(under)[count:])
