"""Ears that hear of changes, and the lines that lead from a room to them."""

WELL = 0
ROW_LOST = 1
BROKEN_MIDST = 3


class Ear:
    """What was heard of the changes, each once, and what stands by that."""

    def __init__(self, start=1, pairs=None):
        self._last = start - 1
        self._taken = []
        self._standing = {}
        if pairs is not None:
            for key, value in pairs:
                self._standing[key] = value

    def hear(self, changes):
        """Take in the changes that are new, and return the number of the last one taken in."""
        for change in changes:
            if change[0] > self._last:
                self._take_in(change)
        return self._last

    def heard(self):
        """Return all changes that were taken in, in order."""
        return list(self._taken)

    def state(self):
        """Return (key, value) of what stands, in the order of the keys."""
        return sorted(self._standing.items())

    def many(self):
        """Return how many changes were taken in."""
        return len(self._taken)

    def _take_in(self, change):
        number, _, word, key, value = change
        self._last = number
        self._taken.append(change)
        if word == "put":
            self._standing[key] = value
        else:
            # An ear that began later need not know the key that is cut.
            self._standing.pop(key, None)


class Line:
    """A watcher of a room and an ear with the same start."""

    def __init__(self, room, prefix, start, pairs=None):
        self._room = room
        self.watcher = room.watch(prefix, start)
        self.ear = Ear(start, pairs)

    def turn(self, most, luck):
        """Pull a row, let it come to the ear as luck has it, and return how many changes the ear took in."""
        row = self._room.pull(self.watcher, most)
        before = self.ear.many()
        self.ear.hear(arriving(row, luck))
        if luck == WELL:
            self._room.confirm(self.watcher)
        else:
            self._room.broken(self.watcher)
        return self.ear.many() - before


def arriving(row, luck):
    """Return what of a row comes to the ear."""
    if luck == ROW_LOST:
        return []
    if luck == BROKEN_MIDST:
        return row[:len(row) // 2]
    return row


def line_now(room, prefix):
    """Return a line that begins with what stands now under a prefix."""
    return Line(room, prefix, room.last() + 1, room.pairs(prefix))
