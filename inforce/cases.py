"""What is in force on a day behind a program, as a line and as cases."""

from inforce.errors import InvalidDay
from inforce.lines import line_ahead, stretch_days
from inforce.lists import plus


def line(program, day):
    """Return the line of what is in force on a day behind a program."""
    if day < 0:
        raise InvalidDay(day)
    told = ([(0, day, 0)], None)
    for deed in program.deeds[::-1]:
        told = line_ahead(told, deed)
    return told


def line_answer(told, prices):
    """Return what a line answers of a price list."""
    spans, price = told
    days = _entry_days(prices)
    for first, last, number in spans:
        if _some_within(days, first, last):
            return plus(prices[last], number)
    return price


def cases(program, day):
    """Return cases for what is in force on a day behind a program."""
    spans, price = line(program, day)
    told = []
    passed = []
    for first, last, number in spans:
        told.append((passed + [(first, last, True)], ("of", last, number)))
        passed = passed + [(first, last, False)]
    return told + [(passed, ("price", price))]


def fits(case, prices):
    """Return True if all conditions of a case hold for a price list."""
    conditions, _ = case
    days = _entry_days(prices)
    return all([_some_within(days, first, last) == has for first, last, has in conditions])


def answer(case, prices):
    """Return what the answer of a case tells of a price list."""
    _, words = case
    if words[0] == "price":
        return words[1]
    return plus(prices[words[1]], words[2])


def judge(program, day, told):
    """Return True if just one case fits each price list, and tells what is in force."""
    asked = line(program, day)
    days = _stretches(asked, day, told)
    return _just_one_fits(told, days) and _all_tell(told, asked, days)


def _entry_days(prices):
    return [day for day, _ in prices.entries]


def _some_within(days, first, last):
    return any([first <= day <= last for day in days])


# Of a list, conditions and answers ask only in which stretches of days between
# the days that they name it has entries, and which is the last one in each. So
# judge needs only lists with entries on the first days of stretches, of which
# there are finitely many; and as prices may be any, it needs only their days.

def _stretches(asked, day, told):
    """Return the first days of the stretches, ascending."""
    spans, _ = asked
    named = [(0, day)] + [(first, last) for first, last, _ in spans]
    for conditions, words in told:
        named.extend([(first, last) for first, last, _ in conditions])
        if words[0] == "of":
            named.append((0, words[1]))
    return stretch_days(named)


def _left_free(days, conditions):
    """Return the days on which the conditions let a list have an entry."""
    free = days
    for first, last, has in conditions:
        if not has:
            free = [day for day in free if day < first or last < day]
    return free


def _fullest(days, conditions):
    """Return the most days with which all conditions hold, None if there are none."""
    free = _left_free(days, conditions)
    if all([_some_within(free, first, last) for first, last, has in conditions if has]):
        return free
    return None


def _just_one_fits(told, days):
    for index, (conditions, _) in enumerate(told):
        for others, _ in told[:index]:
            if _fullest(days, conditions + others) is not None:
                return False
    # No two fit the same list: so they fit all lists together if they fit as many.
    return sum([_many_fitted(days, conditions) for conditions, _ in told]) == _many_fitted(days, [])


def _many_fitted(days, conditions):
    """Return for how many sets of the days all conditions hold."""
    asked = [(first, last) for first, last, has in conditions if has]
    # For each day, how many sets end on it, with no condition missed up to it;
    # the day ahead of all ends the empty set, the one behind all ends each set.
    ends = [(-1, 1)]
    for day in _left_free(days, conditions) + [days[-1] + 1]:
        many = sum([count for ahead, count in ends if not _missed(asked, ahead, day)])
        ends.append((day, many))
    return ends[-1][1]


def _missed(asked, ahead, day):
    """Return True if some span that is asked for lies between two days."""
    return any([ahead < first and last < day for first, last in asked])


def _all_tell(told, asked, days):
    for conditions, right in _sources(asked, days):
        for more, words in told:
            full = _fullest(days, conditions + more)
            # If the entry that answers is the same one with the most entries that
            # there may be, it is the same one with fewer of them.
            if full is not None and _source(words, full) != _source(right, full):
                return False
    return True


def _sources(asked, days):
    """Return cases, as a line tells them, for each entry that may answer."""
    spans, price = asked
    told = []
    passed = []
    for first, last, number in spans:
        within = [day for day in days if first <= day <= last]
        for day in within:
            conditions = passed + [(day + 1, last, False), (day, day, True)]
            told.append((conditions, ("of", day, number)))
        passed = passed + [(first, last, False)]
    return told + [(passed, ("price", price))]


def _source(words, days):
    """Return an answer, with the day of the entry that it takes in place of its day."""
    if words[0] == "price":
        return words
    ahead = [day for day in days if day <= words[1]]
    if len(ahead) == 0:
        return ("price", None)
    return ("of", ahead[-1], words[2])
