"""The refusals of the program, one class for each kind."""


class LeaseError(ValueError):
    """Any refusal; the classes below stand directly under it."""


class BadTicks(LeaseError):
    """A number of ticks out of its limits."""


class NoLease(LeaseError):
    """A lease that was never given, or has ended."""


class NoKey(LeaseError):
    """A key that isn't there."""


class Held(LeaseError):
    """A key that another lease holds."""


class NoStart(LeaseError):
    """A start outside of the changes that are kept and the next one to come."""


class NoWatch(LeaseError):
    """A watcher that never was, or has left."""
