"""A room: keys and their values, the leases that hold them, and the watchers of the changes."""

from leasewatch.errors import BadTicks, Held, NoKey, NoStart, NoWatch
from leasewatch.leases import MOST_TICKS, Leases
from leasewatch.log import Log


class Watcher:
    """What a watcher wants, and the changes up to which it was told and has had all."""

    def __init__(self, prefix, start):
        self.prefix = prefix
        self.told = start - 1
        self.had = start - 1


class Room:
    """Keys with their values and holders; time goes on by waiting alone."""

    def __init__(self):
        self.now = 0
        self._leases = Leases()
        self._log = Log()
        self._values = {}
        self._holders = {}
        self._entered = 0
        self._watchers = {}

    def grant(self, ticks):
        """Give a lease for some ticks, and return its number."""
        return self._leases.grant(self.now, ticks)

    def renew(self, lease):
        """Let a lease last from now on for as many ticks as it was given for."""
        self._leases.renew(self.now, lease)

    def drop(self, lease):
        """End a lease now."""
        self._end(lease, self.now)

    def wait(self, ticks):
        """Let time go on, and end the leases whose end has come by then."""
        if ticks < 0 or ticks > MOST_TICKS:
            raise BadTicks(f"a room waits 0 to {MOST_TICKS} ticks")
        self.now += ticks
        ended = self._leases.due(self.now)
        for end, lease in ended:
            self._end(lease, end)

    def put(self, key, value, lease=0):
        """Give a key its value and its holder, and return the change's number."""
        self._refuse_lease(lease)
        self._refuse_held(key, lease)
        self._values[key] = value
        self._holders[key] = lease
        return self._log.note(self.now, "put", key, value)

    def cut(self, key, lease=0):
        """Take a key out, and return the change's number."""
        self._refuse_lease(lease)
        if key not in self._values:
            raise NoKey("the key isn't there")
        self._refuse_held(key, lease)
        return self._take_out(key, self.now)

    def value(self, key):
        """Return a key's value, None where it isn't there."""
        return self._values.get(key)

    def holder(self, key):
        """Return the lease that holds a key, 0 where none does."""
        return self._holders.get(key, 0)

    def pairs(self, prefix):
        """Return (key, value) of the keys that begin with a prefix, in their order."""
        return sorted([(key, value) for key, value in self._values.items() if key.startswith(prefix)])

    def last(self):
        """Return the number of the last change, 0 ahead of any."""
        return self._log.last()

    def first(self):
        """Return the number of the first change that is kept, or of the next one to come where none is."""
        return self._log.first()

    def watch(self, prefix, start):
        """Put in a watcher of the changes from a start on, and return its number."""
        if start < self.first() or start > self.last() + 1:
            raise NoStart("a watcher starts at a change that is kept or at the next one to come")
        # Counted, not taken from the watchers that stand: a number that has
        # left must not come again.
        self._entered += 1
        self._watchers[self._entered] = Watcher(prefix, start)
        return self._entered

    def pull(self, watcher, most):
        """Tell a watcher the next few changes that it wants."""
        watching = self._watching(watcher)
        row = self._log.wanted(watching.prefix, watching.told, most)
        if len(row) < most:
            # It wants no more of what there is: all of that counts as told, so
            # that it is had once this is confirmed, and may be forgotten.
            watching.told = self.last()
        elif row:
            watching.told = row[-1][0]
        return row

    def confirm(self, watcher):
        """Take it that a watcher has had all that it was told."""
        watching = self._watching(watcher)
        watching.had = watching.told

    def broken(self, watcher):
        """Take it that a watcher was told only what it has had."""
        watching = self._watching(watcher)
        watching.told = watching.had

    def leave(self, watcher):
        """Let a watcher leave."""
        self._refuse_watcher(watcher)
        del self._watchers[watcher]

    def trim(self):
        """Forget the changes that each watcher has had, and return how many these were."""
        upto = min([watching.had for watching in self._watchers.values()], default=self.last())
        return self._log.forget(upto)

    def _end(self, lease, tick):
        self._leases.drop(lease)
        held = sorted([key for key, holder in self._holders.items() if holder == lease])
        for key in held:
            self._take_out(key, tick)

    def _take_out(self, key, tick):
        del self._values[key]
        del self._holders[key]
        return self._log.note(tick, "cut", key, "")

    def _refuse_lease(self, lease):
        if lease != 0:
            self._leases.refuse_unknown(lease)

    def _refuse_held(self, key, lease):
        holder = self.holder(key)
        if holder != 0 and holder != lease:
            raise Held("another lease holds the key")

    def _watching(self, watcher):
        self._refuse_watcher(watcher)
        return self._watchers[watcher]

    def _refuse_watcher(self, watcher):
        if watcher not in self._watchers:
            raise NoWatch("the watcher never was, or has left")
