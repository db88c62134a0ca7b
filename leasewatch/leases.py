"""Leases by themselves: their numbers, and when each of them ends."""

from leasewatch.errors import BadTicks, NoLease

MOST_TICKS = 1000000


class Leases:
    """The leases that were given and not dropped.

    No time goes on here: the caller says which tick is now, asks what is due,
    and drops what has ended.
    """

    def __init__(self):
        self._given = 0
        self._ticks = {}
        self._ends = {}

    def grant(self, now, ticks):
        """Give a lease for some ticks from now on, and return its number."""
        if ticks < 1 or ticks > MOST_TICKS:
            # The message leaves the number out: Python refuses, with an error
            # of its own, to write out a very long one.
            raise BadTicks(f"a lease is given for 1 to {MOST_TICKS} ticks")
        # Counted, not taken from the leases that stand: a number that was
        # dropped must not come again.
        self._given += 1
        lease = self._given
        self._ticks[lease] = ticks
        self._ends[lease] = now + ticks
        return lease

    def renew(self, now, lease):
        """Let a lease last from now on for as many ticks as it was given for."""
        self.refuse_unknown(lease)
        self._ends[lease] = now + self._ticks[lease]

    def drop(self, lease):
        """End a lease."""
        self.refuse_unknown(lease)
        del self._ticks[lease]
        del self._ends[lease]

    def due(self, until):
        """Return (end, lease) of each lease that ends at a tick or ahead of it, in the order of their ends."""
        return sorted([(end, lease) for lease, end in self._ends.items() if end <= until])

    def refuse_unknown(self, lease):
        """Refuse a lease that doesn't stand; any other one is let pass."""
        if lease not in self._ends:
            raise NoLease("the lease was never given, or has ended")
