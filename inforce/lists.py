"""Price lists, and what is in force by their entries."""

from inforce.errors import DoubleDay, InvalidDay


def in_force(entries, day):
    """Return what is in force on a day, by ascending entries (day, price)."""
    told = None
    for first, price in entries:
        if first > day:
            break
        told = price
    return told


def plus(price, number):
    """Return a price plus a number; where nothing is in force, nothing changes."""
    if price is None:
        return None
    return price + number


class PriceList:
    """Entries, each with a day and the price that is in force from it on."""

    def __init__(self, entries):
        told = {}
        for day, price in entries:
            if day < 0:
                raise InvalidDay(day)
            if day in told:
                raise DoubleDay(day)
            told[day] = price
        self._entries = [(day, told[day]) for day in sorted(told)]

    @property
    def entries(self):
        """The entries (day, price), ascending by days."""
        return list(self._entries)

    def changes(self):
        """Return the (day, price) at which something else comes in force."""
        told = []
        ahead = None
        for day, price in self._entries:
            if price != ahead:
                told.append((day, price))
            ahead = price
        return told

    def alike(self, other):
        """Return True if the same is in force in both lists on every day."""
        return self.changes() == other.changes()

    def first_unlike(self, other):
        """Return the first day on which the lists differ, or None."""
        # Between the days of entries nothing comes in force or ends.
        for day in sorted({day for day, _ in self.entries + other.entries}):
            if self[day] != other[day]:
                return day
        return None

    def __getitem__(self, day):
        if day < 0:
            raise InvalidDay(day)
        return in_force(self._entries, day)

    # With __getitem__ alone Python would iterate over all days, without an end.
    def __iter__(self):
        raise TypeError("a price list is not iterated over")

    def __len__(self):
        return len(self._entries)

    def __eq__(self, other):
        return isinstance(other, PriceList) and self._entries == other._entries
