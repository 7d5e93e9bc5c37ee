"""The calls on one cache over its devices, and how they're answered."""

from stretchcache.blocks import is_block, trimmed
from stretchcache.cache import Cache
from stretchcache.calls import parsed
from stretchcache.devices import Devices, PowerGone
from stretchcache.pool import OUT, Pool, is_pool
from stretchcache.sums import Sums

DONE = 0
NOT_ALLOWED = -1
NOT_FOUND = -2
NOT_WRITTEN = -5
NO_CACHE = -9
POWER_WENT = -100


def done_or_not_written(done):
    """The answer to a write or a sync."""
    if done:
        return [DONE]
    return [NOT_WRITTEN]


def answer_read(cache, call):
    """read: how many bytes, then these."""
    block = cache.read(call.numbers[0], call.numbers[1])
    if block is None:
        return [NOT_FOUND]
    return [len(block)] + block


def answer_write(cache, call):
    """write: 0, if the block is written."""
    place = call.numbers[0]
    data = call.lists[0]
    if not cache.pool.is_place(place) or not is_block(data):
        return [NOT_ALLOWED]
    return done_or_not_written(cache.write(place, trimmed(data)))


def answer_barrier(cache, call):
    """barrier: the stretch that's now then."""
    return [cache.barrier()]


def answer_sync(cache, call):
    """sync: 0, if nothing is left to be written."""
    return done_or_not_written(cache.sync())


def answer_forget(cache, call):
    """forget: 0, whether anything was kept of the place or not."""
    cache.forget(call.numbers[0])
    return [DONE]


def answer_told(cache, call):
    """told: how many are clean, then their places, then each dirty one's stretch and place."""
    return cache.told()


def answer_state(cache, call):
    """state: 0, when the pool counts the device as the call says."""
    number = call.numbers[0]
    state = call.numbers[1]
    if state > OUT or not cache.pool.has_device(number):
        return [NOT_ALLOWED]
    cache.pool.count_as(number, state)
    return [DONE]


CACHE_CALLS = {
    1: answer_read,
    2: answer_write,
    3: answer_barrier,
    4: answer_sync,
    5: answer_forget,
    6: answer_told,
    8: answer_state,
}


def answer_begin(house, call):
    """begin: a new pool, and a new cache over it; how many places the pool has."""
    block_count = call.numbers[0]
    mirrors = call.lists
    if not is_pool(block_count, mirrors):
        return [NOT_ALLOWED]
    house.cache = Cache(Pool(house.devices, house.sums, block_count, mirrors))
    return [house.cache.pool.place_count]


def answer_sum(house, call):
    """sum: 0, then the block's sum there, whether there's such a place or not."""
    data = call.lists[0]
    if not is_block(data):
        return [NOT_ALLOWED]
    return [DONE, house.sums.at_place(call.numbers[0], data)]


def answer_block(house, call):
    """block: how many bytes the block has now, then these, then those that are sure."""
    number = call.numbers[0]
    k = call.numbers[1]
    if not house.devices.has_block(number, k):
        return [NOT_ALLOWED]
    device = house.devices.each[number]
    now = device.block_now(k)
    return [len(now)] + now + device.sure_block(k)


# In a table of their own, because they're answered without a cache, too.
HOUSE_CALLS = {0: answer_begin, 7: answer_sum, 9: answer_block}


class House:
    """One line's devices, and the cache over them, as long as there is one."""

    def __init__(self, sizes, script):
        self.devices = Devices(sizes, script)
        self.sums = Sums()
        self.cache = None

    def answer(self, call):
        """What the call answers. The power may go in each that asks devices."""
        if call.number in HOUSE_CALLS:
            return HOUSE_CALLS[call.number](self, call)
        if self.cache is None:
            return [NO_CACHE]
        try:
            return CACHE_CALLS[call.number](self.cache, call)
        except PowerGone:
            self.cache = None
            return [POWER_WENT]


def answers(calls):
    """Answers a line of calls: for each, how many numbers are answered, then these."""
    line = parsed(calls)
    house = House(line[0].lists[0], line[0].lists[1:])
    # The call devices stands first, and is answered by no numbers.
    told = [0]
    for call in line[1:]:
        answer = house.answer(call)
        told.append(len(answer))
        told.extend(answer)
    return told
