"""Second, plain ways to what the package works out, and inputs made at random.

Price lists are dicts from days to prices here, and nothing of the package is used.
"""

from itertools import combinations, product


def force(entries, day):
    """What is in force on a day, asked day by day."""
    while day >= 0:
        if day in entries:
            return entries[day]
        day -= 1
    return None


def _stretch(entries, first, behind, price):
    then = force(entries, behind)
    for day in range(first, behind + 1):
        entries.pop(day, None)
    entries[first] = price
    entries[behind] = then


def _raise(entries, first, behind, number):
    for day in (first, behind):
        if day not in entries:
            entries[day] = force(entries, day)
    for day in range(first, behind):
        if entries.get(day) is not None:
            entries[day] += number


def do(entries, deed):
    """Do a deed on a dict."""
    kind, day, *more = deed
    if kind == "put":
        entries[day] = more[0]
    elif kind == "take":
        entries.pop(day, None)
    elif kind == "end":
        for at in list(entries):
            if at >= day:
                del entries[at]
    elif kind == "cover":
        _stretch(entries, day, more[0], more[1])
    elif kind == "raise":
        _raise(entries, day, more[0], more[1])
    elif kind == "repeat":
        _stretch(entries, day, more[0], force(entries, more[1]))
    else:
        raise AssertionError(deed)


def done(entries, deeds):
    """The dict behind the deeds."""
    entries = dict(entries)
    for deed in deeds:
        do(entries, deed)
    return entries


def named_days(deeds):
    """The days that deeds name."""
    days = set()
    for kind, *things in deeds:
        days.update(things[:{"take": 1, "end": 1, "put": 1, "repeat": 3}.get(kind, 2)])
    return sorted(days)


def has(entries, first, last):
    """True if there is an entry on one of the days."""
    return any(day in entries for day in range(first, last + 1))


def plus(price, number):
    return None if price is None else price + number


def line_answer(told, entries):
    spans, price = told
    for first, last, number in spans:
        if has(entries, first, last):
            return plus(force(entries, last), number)
    return price


def fits(case, entries):
    return all(has(entries, first, last) == wanted for first, last, wanted in case[0])


def answer(case, entries):
    if case[1][0] == "price":
        return case[1][1]
    return plus(force(entries, case[1][1]), case[1][2])


# Prices far apart, and far from all that deeds and cases name: so two of them,
# with numbers added, are the same only if price and number are.
FAR = 10 ** 7


def far_price(day):
    return (day + 1) * FAR


def line(deeds, day):
    """The line, worked out from what lists with at most two entries answer alone.

    A day is told of if the price there comes through; of two such days the one
    stands ahead whose price comes through if both have an entry.
    """
    top = max([day] + named_days(deeds)) + 1
    price = force(done({}, deeds), day)
    numbers = {}
    for at in range(top + 1):
        one = force(done({at: far_price(at)}, deeds), day)
        if one is not None and one > FAR // 2:
            numbers[at] = one - far_price(at)
    ahead_of = {at: 0 for at in numbers}
    for low, high in combinations(sorted(numbers), 2):
        both = {low: far_price(low), high: far_price(high)}
        told = force(done(both, deeds), day)
        winner = low if told - numbers[low] == far_price(low) else high
        assert told - numbers[winner] == far_price(winner)
        ahead_of[winner] += 1
    spans = []
    for at in sorted(numbers, key=lambda at: -ahead_of[at]):
        if spans and spans[-1][0] == at + 1 and spans[-1][2] == numbers[at]:
            spans[-1] = (at, spans[-1][1], numbers[at])
        else:
            spans.append((at, at, numbers[at]))
    return spans, price


def is_line(told):
    """True if spans have the form that a line has."""
    spans, _ = told
    days = [day for first, last, _ in spans for day in range(first, last + 1)]
    return (
        all(0 <= first <= last for first, last, _ in spans)
        and len(days) == len(set(days))
        and not any(
            one[0] == other[1] + 1 and one[2] == other[2]
            for one, other in zip(spans, spans[1:])
        )
    )


def stretches(deeds, day, told):
    """The stretches of days between all days that are named, as (first, last)."""
    edges = {0, day, day + 1}
    for at in named_days(deeds):
        edges.update((at, at + 1))
    for conditions, words in told:
        for first, last, _ in conditions:
            edges.update((first, last + 1))
        if words[0] == "of":
            edges.update((words[1], words[1] + 1))
    edges = sorted(edges)
    return list(zip(edges, [edge - 1 for edge in edges[1:]] + [edges[-1] + 1]))


def lists_over(spans):
    """All lists with and without an entry in each stretch, on its last day."""
    for chosen in product((False, True), repeat=len(spans)):
        yield {span[1]: far_price(span[1]) for span, has_it in zip(spans, chosen) if has_it}


def judge(deeds, day, told):
    """True if just one case fits each list and tells what is in force."""
    for entries in lists_over(stretches(deeds, day, told)):
        fitting = [case for case in told if fits(case, entries)]
        if len(fitting) != 1:
            return False
        if answer(fitting[0], entries) != force(done(entries, deeds), day):
            return False
    return True


def shown(entries, top):
    """What is in force on each day from 0 to top."""
    told, price = [], None
    for day in range(top + 1):
        price = entries.get(day, price)
        told.append(price)
    return told


def all_lists(days):
    """All lists with entries on some of the days, with prices far apart."""
    return list(lists_over([(day, day) for day in days]))


def few_lists(days):
    """The lists with at most two entries on some of the days, with prices far apart."""
    return [
        {day: far_price(day) for day in chosen}
        for size in range(3) for chosen in combinations(days, size)
    ]


def days_that_matter(deeds):
    """A day for each place between the named days, two for each that has room for them."""
    named = named_days(deeds)
    near = {day + step for day in named for step in (-1, 0, 1)}
    top = max(named, default=0) + 2
    return sorted(day for day in near | {0, top - 1, top} if day >= 0)


def effect(deeds, lists, top):
    """What is in force behind the deeds on each day from 0 to top, for each list."""
    return [shown(done(entries, deeds), top) for entries in lists]


def alike(deeds, others, lists):
    """True if the deeds and the others leave the same in force for each of the lists."""
    top = max(named_days(deeds + others), default=0) + 3
    return all(
        shown(done(entries, deeds), top) == shown(done(entries, others), top) for entries in lists
    )


def some_price(source, low=-5, high=9):
    return None if source.random() < 0.2 else source.randint(low, high)


def some_deed(source, top, kinds=("put", "take", "end", "cover", "raise", "repeat")):
    """A deed on days from 0 to top."""
    kind = source.choice(kinds)
    if kind in ("put", "take", "end"):
        day = source.randint(0, top)
        return ("put", day, some_price(source)) if kind == "put" else (kind, day)
    first, behind = sorted(source.sample(range(top + 1), 2))
    if kind == "cover":
        return (kind, first, behind, some_price(source))
    if kind == "raise":
        return (kind, first, behind, source.randint(-3, 3))
    return (kind, first, behind, source.randint(0, top))


def some_deeds(source, top, most):
    return [some_deed(source, top) for _ in range(source.randint(0, most))]


def some_entries(source, top, most):
    """Entries in any order, no day twice."""
    days = source.sample(range(top + 1), source.randint(0, min(most, top + 1)))
    return [(day, some_price(source)) for day in days]


def greater(deed):
    """The deed with its last thing greater by one; 0 for None."""
    return (*deed[:-1], 0 if deed[-1] is None else deed[-1] + 1)


def near_ones(source, deeds, top):
    """Deeds that are the same but for one: left out, doubled, replaced, put in, exchanged, greater."""
    at = source.randrange(len(deeds))
    ahead, deed, behind = deeds[:at], deeds[at], deeds[at + 1:]
    other = some_deed(source, top)
    near = [ahead + behind, ahead + [other] + behind, ahead + [greater(deed)] + behind]
    if len(deeds) < 6:
        near.extend([ahead + [deed, deed] + behind, ahead + [other, deed] + behind])
    if behind:
        near.append(ahead + [behind[0], deed] + behind[1:])
    return near
