"""The plain words of the document as a slow program: what a room is held against.

It goes on tick by tick, forgets nothing, and keeps for each watcher the very
numbers that it was told and has had.
"""

from leasewatch.errors import BadTicks, Held, NoKey, NoLease, NoStart, NoWatch


class PlainRoom:
    def __init__(self):
        self.now = 0
        self.leases = []        # [ticks, end, whether it stands], lease 1 first
        self.stands = {}        # key: (value, holder)
        self.history = []       # all changes that ever were
        self.forgotten = 0
        self.watchers = []      # a dict each, None behind a leaving, watcher 1 first

    # Leases

    def grant(self, ticks):
        if not 1 <= ticks <= 1000000:
            raise BadTicks
        self.leases.append([ticks, self.now + ticks, True])
        return len(self.leases)

    def known(self, lease):
        if lease < 1 or lease > len(self.leases) or not self.leases[lease - 1][2]:
            raise NoLease
        return self.leases[lease - 1]

    def renew(self, lease):
        held = self.known(lease)
        held[1] = self.now + held[0]

    def drop(self, lease):
        self.known(lease)[2] = False
        for key in sorted(self.stands):
            if self.stands[key][1] == lease:
                del self.stands[key]
                self.change("cut", key, "")

    def wait(self, ticks):
        if not 0 <= ticks <= 1000000:
            raise BadTicks
        for _ in range(ticks):
            self.now += 1
            for lease, (_, end, standing) in enumerate(self.leases, 1):
                if standing and end == self.now:
                    self.drop(lease)

    # Keys

    def change(self, word, key, value):
        self.history.append((len(self.history) + 1, self.now, word, key, value))
        return len(self.history)

    def put(self, key, value, lease=0):
        if lease != 0:
            self.known(lease)
        if self.holder(key) not in (0, lease):
            raise Held
        self.stands[key] = (value, lease)
        return self.change("put", key, value)

    def cut(self, key, lease=0):
        if lease != 0:
            self.known(lease)
        if key not in self.stands:
            raise NoKey
        if self.holder(key) not in (0, lease):
            raise Held
        del self.stands[key]
        return self.change("cut", key, "")

    def value(self, key):
        return self.stands[key][0] if key in self.stands else None

    def holder(self, key):
        return self.stands[key][1] if key in self.stands else 0

    def pairs(self, prefix):
        return [(key, self.stands[key][0]) for key in sorted(self.stands) if key[:len(prefix)] == prefix]

    # Changes

    def last(self):
        return len(self.history)

    def first(self):
        return self.forgotten + 1

    # Watchers

    def watch(self, prefix, start):
        if not self.first() <= start <= self.last() + 1:
            raise NoStart
        ahead = set(range(1, start))
        self.watchers.append({"prefix": prefix, "start": start, "told": set(ahead), "had": set(ahead)})
        return len(self.watchers)

    def here(self, watcher):
        if watcher < 1 or watcher > len(self.watchers) or self.watchers[watcher - 1] is None:
            raise NoWatch
        return self.watchers[watcher - 1]

    def wants(self, watcher):
        """All changes that a watcher wants, whether it was told them or not."""
        here = self.here(watcher)
        prefix = here["prefix"]
        return [row for row in self.history if row[0] >= here["start"] and row[3][:len(prefix)] == prefix]

    def pull(self, watcher, most):
        here = self.here(watcher)
        row = [change for change in self.wants(watcher) if change[0] not in here["told"]][:most]
        if len(row) < most:
            here["told"].update(range(1, self.last() + 1))
        elif row:
            here["told"].update(range(1, row[-1][0] + 1))
        return row

    def confirm(self, watcher):
        here = self.here(watcher)
        here["had"] = set(here["told"])

    def broken(self, watcher):
        here = self.here(watcher)
        here["told"] = set(here["had"])

    def leave(self, watcher):
        self.here(watcher)
        self.watchers[watcher - 1] = None

    def trim(self):
        before = self.forgotten
        standing = [here for here in self.watchers if here is not None]
        while self.forgotten < self.last() and all(self.first() in here["had"] for here in standing):
            self.forgotten += 1
        return self.forgotten - before
