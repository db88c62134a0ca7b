"""Changes by themselves: their numbers, and which of them are kept."""


class Log:
    """The changes that were noted; the first ones may have been forgotten.

    A change is a tuple (number, tick, word, key, value).
    """

    def __init__(self):
        self._forgotten = 0
        self._kept = []

    def note(self, tick, word, key, value):
        """Put a change behind the others, and return its number."""
        number = self.last() + 1
        self._kept.append((number, tick, word, key, value))
        return number

    def last(self):
        """Return the number of the last change, 0 ahead of any."""
        return self._forgotten + len(self._kept)

    def first(self):
        """Return the number of the first change that is kept, or of the next one to come where none is."""
        return self._forgotten + 1

    def wanted(self, prefix, behind, most):
        """Return the first few kept changes above a number whose keys begin with a prefix."""
        told = []
        for at in range(max(0, behind - self._forgotten), len(self._kept)):
            if len(told) >= most:
                break
            change = self._kept[at]
            if change[3].startswith(prefix):
                told.append(change)
        return told

    def forget(self, upto):
        """Forget the changes up to a number, and return how many these were."""
        # Neither changes that are still to come nor forgotten ones count.
        many = max(0, min(upto, self.last()) - self._forgotten)
        self._kept = self._kept[many:]
        self._forgotten += many
        return many
