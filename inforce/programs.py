"""Deeds, and the programs that do them one after the other."""

from inforce.errors import InvalidDeed, UnknownDeed
from inforce.lists import PriceList, in_force, plus

# What stands behind the first text of each kind of deed; days stand ahead of others.
THINGS = {
    "put": ("day", "price"),
    "take": ("day",),
    "end": ("day",),
    "cover": ("day", "day", "price"),
    "raise": ("day", "day", "number"),
    "repeat": ("day", "day", "day"),
}


def deed_days(deed):
    """Return the days that a deed names, in its own order."""
    return deed[1:1 + THINGS[deed[0]].count("day")]


def is_deed(deed):
    """Return True if a tuple is one of the six kinds of deeds."""
    if len(deed) == 0 or deed[0] not in THINGS:
        return False
    if len(deed) != 1 + len(THINGS[deed[0]]):
        return False
    days = deed_days(deed)
    if any([day < 0 for day in days]):
        return False
    return len(days) == 1 or days[0] < days[1]


def _taken(entries, day):
    return [entry for entry in entries if entry[0] != day]


def _put(entries, day, price):
    return sorted(_taken(entries, day) + [(day, price)])


def _ended(entries, day):
    return [entry for entry in entries if entry[0] < day]


def _covered(entries, first, behind, price):
    kept = [entry for entry in entries if entry[0] < first or entry[0] > behind]
    then = in_force(entries, behind)
    return sorted(kept + [(first, price), (behind, then)])


def _raised(entries, first, behind, number):
    parted = entries
    for day in (first, behind):
        # Where an entry stands already, this leaves it as it is.
        parted = _put(parted, day, in_force(parted, day))
    return [
        (day, plus(price, number) if first <= day < behind else price)
        for day, price in parted
    ]


def deed_done(entries, deed):
    """Return the ascending entries behind a deed, from those ahead of it."""
    kind = deed[0]
    if kind == "put":
        return _put(entries, deed[1], deed[2])
    if kind == "take":
        return _taken(entries, deed[1])
    if kind == "end":
        return _ended(entries, deed[1])
    if kind == "cover":
        return _covered(entries, deed[1], deed[2], deed[3])
    if kind == "raise":
        return _raised(entries, deed[1], deed[2], deed[3])
    return _covered(entries, deed[1], deed[2], in_force(entries, deed[3]))


class Program:
    """Deeds, done one after the other."""

    def __init__(self, deeds):
        for deed in deeds:
            if not is_deed(deed):
                raise InvalidDeed(deed)
        self._deeds = list(deeds)

    @property
    def deeds(self):
        """The deeds, in order."""
        return list(self._deeds)

    def done(self, prices):
        """Return the price list behind the program."""
        entries = prices.entries
        for deed in self._deeds:
            entries = deed_done(entries, deed)
        return PriceList(entries)

    def days(self):
        """Return the days that the deeds name, ascending, each once."""
        return sorted({day for deed in self._deeds for day in deed_days(deed)})

    def without(self, index):
        """Return the program without the deed at an index."""
        if not 0 <= index < len(self._deeds):
            raise UnknownDeed(index)
        return Program(self._deeds[:index] + self._deeds[index + 1:])

    def __add__(self, other):
        return Program(self._deeds + other._deeds)

    def __len__(self):
        return len(self._deeds)

    def __eq__(self, other):
        return isinstance(other, Program) and self._deeds == other._deeds
