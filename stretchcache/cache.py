"""The cache: clean blocks, dirty ones in stretches, and how they go out to the pool."""

MOST_KEPT = 64


class Cache:
    """What's kept over a pool.

    clean has each block by its place, the one that's longest unused first. dirty has
    each by its stretch and its place, in the order in which they'll be written: stretches
    only grow, so that order is the order of the stretches too.
    """

    def __init__(self, pool):
        self.pool = pool
        self.clean = {}
        self.dirty = {}
        self.stretch = 0
        self.failed = False

    def is_full(self):
        """Whether no more can be kept."""
        return len(self.clean) + len(self.dirty) >= MOST_KEPT

    def is_dirty(self, place):
        """Whether the place has a dirty block, of whatever stretch."""
        return any([key[1] == place for key in self.dirty])

    def latest(self, place):
        """The dirty block of the place's latest stretch, else its clean one, else None."""
        for key in reversed(list(self.dirty)):
            if key[1] == place:
                return self.dirty[key]
        return self.clean.get(place)

    def drop_first_clean(self):
        """The clean block that's longest unused goes."""
        self.clean.pop(list(self.clean)[0])

    def read(self, place, wanted):
        """The block at the place that has the sum wanted, or None."""
        block = self.latest(place)
        if block is None:
            return self.read_from_pool(place, wanted)
        if self.pool.sums.at_place(place, block) != wanted:
            return None
        if place in self.clean:
            self.clean.pop(place)
            self.clean[place] = block
        return block

    def read_from_pool(self, place, wanted):
        """The block that the pool reads, or None; it's kept if there's room."""
        block = self.pool.read(place, wanted)
        if block is not None:
            self.keep_clean(place, block)
        return block

    def keep_clean(self, place, block):
        """The block is the last clean one, unless dirty ones take all the room."""
        if self.is_full():
            if len(self.clean) == 0:
                return
            self.drop_first_clean()
        self.clean[place] = block

    def write(self, place, block):
        """Keeps the block as a dirty one of the stretch that's now: whether it's written."""
        if self.failed:
            return False
        key = (self.stretch, place)
        if key not in self.dirty and not self.make_room(place):
            return False
        self.dirty[key] = block
        return True

    def make_room(self, place):
        """Makes room for a dirty block of the place, whose clean one goes: whether there is room."""
        self.clean.pop(place, None)
        if self.is_full() and len(self.clean) == 0:
            if not self.oldest_goes_out():
                return False
            # A stretch that went out may have left a clean block of this very place.
            self.clean.pop(place, None)
        if self.is_full():
            self.drop_first_clean()
        return True

    def oldest_goes_out(self):
        """The oldest stretch goes out: whether it did. If not, the cache has failed."""
        oldest = list(self.dirty)[0][0]
        leaving = [key for key in self.dirty if key[0] == oldest]
        if not self.all_written(leaving) or not self.pool.flushed():
            self.failed = True
            return False
        for key in leaving:
            block = self.dirty.pop(key)
            if not self.is_dirty(key[1]):
                self.clean[key[1]] = block
        return True

    def all_written(self, keys):
        """Writes these dirty blocks to the pool, up to the first that isn't written: whether all were."""
        for key in keys:
            if not self.pool.written(key[1], self.dirty[key]):
                return False
        return True

    def barrier(self):
        """Begins the next stretch, if the one that's now has dirty blocks; answers the one that's now then."""
        if any([key[0] == self.stretch for key in self.dirty]):
            self.stretch += 1
        return self.stretch

    def sync(self):
        """All stretches go out, the oldest first, up to one that fails: whether all did."""
        while not self.failed and len(self.dirty) > 0:
            self.oldest_goes_out()
        return not self.failed

    def forget(self, place):
        """The place's clean block and its dirty ones go, of all stretches."""
        self.clean.pop(place, None)
        leaving = [key for key in self.dirty if key[1] == place]
        for key in leaving:
            self.dirty.pop(key)

    def told(self):
        """How many are clean, their places, and each dirty one's stretch and place, all in order."""
        row = [len(self.clean)] + list(self.clean)
        for key in self.dirty:
            row.extend([key[0], key[1]])
        return row
