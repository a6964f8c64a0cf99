"""What programs do for all price lists at once, as their lines tell it.

A day behind a program has just one line: so two days tell the same for every
price list exactly if their lines are the same.
"""

from inforce.cases import line, line_answer
from inforce.errors import UnknownDeed
from inforce.lines import line_ahead, stretch_days
from inforce.lists import PriceList
from inforce.programs import Program


def alike(one, other):
    """Return True if two programs leave alike lists, whatever the list ahead of them."""
    return all([line(one, day) == line(other, day) for day in _telling_days(one, other)])


def unlike(one, other):
    """Return a price list and a day that part two programs, None if they are alike."""
    for day in _telling_days(one, other):
        told, others = line(one, day), line(other, day)
        if told != others:
            return _parting(told, others), day
    return None


def may_change_places(program, index):
    """Return True if a deed and the next one may change places."""
    if not 0 <= index < len(program) - 1:
        raise UnknownDeed(index)
    deeds = program.deeds
    changed = deeds[:index] + [deeds[index + 1], deeds[index]] + deeds[index + 2:]
    return alike(program, Program(changed))


def needless(program):
    """Return the indexes of the deeds that may be left out, one at a time."""
    return [index for index in range(len(program)) if alike(program, program.without(index))]


def least_sets(program):
    """Return the sets of deeds that do what all do, but no set of only some of them does."""
    told = _lines_of_sets(program)
    _, whole = told[-1]
    right = sorted([(len(indexes), indexes) for indexes, lines in told if lines == whole])
    least = []
    for _, chosen in right:
        # The sets come by their number: those within this one stand ahead of it.
        if not any([_within(fewer, chosen) for fewer in least]):
            least.append(chosen)
    return least


def untouched(program, day):
    """Return True if on a day always the same is in force behind a program as ahead of it."""
    return line(program, day) == line(Program([]), day)


def sure(program, day):
    """Return a tuple of the one price that is in force on a day, None if it may be another."""
    spans, price = line(program, day)
    if len(spans) > 0:
        return None
    return (price,)


def same_days(program, day, other):
    """Return True if always the same is in force on both days behind a program."""
    return line(program, day) == line(program, other)


def _telling_days(one, other):
    """Return the days whose lines tell whether two programs are alike."""
    named = one.days() + other.days()
    return list(range(max(named, default=0) + 2))


def _parting(told, others):
    """Return a price list of which two lines that are not the same tell unlike things."""
    spans = told[0] + others[0]
    days = stretch_days([(first, last) for first, last, _ in spans])
    lists = [PriceList(entries) for entries in _few_entries(days)]
    parting = [prices for prices in lists if line_answer(told, prices) != line_answer(others, prices)]
    return parting[0]


def _few_entries(days):
    """Return the entries of lists that part any two lines of these stretches."""
    # An entry with the price 0 may happen to tell the same as what answers in the
    # other line, a price or another entry: then one with the price 1 does not.
    ones = [[(day, price)] for day in days for price in (0, 1)]
    twos = [
        [(day, 0), (behind, price)]
        for day in days for behind in days if day < behind for price in (0, 1)
    ]
    return [[]] + ones + twos


def _lines_of_sets(program):
    """Return (indexes, lines) for all sets of deeds, the whole program's last."""
    days = _telling_days(program, program)
    told = [([], [line(Program([]), day) for day in days])]
    # From the last deed on, as lines are taken back: so sets that end with the
    # same deeds share the work.
    for index, deed in list(enumerate(program.deeds))[::-1]:
        told = told + [
            ([index] + indexes, [line_ahead(asked, deed) for asked in lines])
            for indexes, lines in told
        ]
    return told


def _within(fewer, chosen):
    return all([index in chosen for index in fewer])
