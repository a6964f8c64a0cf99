"""What a line becomes when one more deed is done ahead of it.

A line is a tuple (spans, price), as cases.py describes it.
"""

from inforce.lists import plus


def line_ahead(told, deed):
    """Return the line that tells ahead of a deed what `told` tells behind it."""
    spans, price = told
    ahead = []
    for span in spans:
        parts, ending = _span_ahead(span, deed)
        ahead.extend(parts)
        if ending is not None:
            return _in_form(ahead), ending[0]
    return _in_form(ahead), price


def stretch_days(spans):
    """Return the days on which spans (first, last) begin or are over, ascending."""
    return sorted({edge for first, last in spans for edge in (first, last + 1)})


def _span_ahead(span, deed):
    """Return (parts, ending) for what a span tells behind a deed.

    The parts are the spans that tell it ahead of the deed. The ending is None
    if behind the deed the span may have no entry. If it surely has one, no span
    behind it is asked: the ending is a tuple of the price that answers where no
    part does.
    """
    kind = deed[0]
    if kind == "put":
        return _ahead_of_put(span, deed[1], deed[2])
    if kind == "take":
        return _left_over(span, deed[1], deed[1]), None
    if kind == "end":
        return _left_over(span, deed[1], span[1]), None
    return _ahead_of_stretch(span, deed)


def _ahead_of_put(span, day, price):
    first, last, number = span
    if not first <= day <= last:
        return [span], None
    return _left_over(span, first, day), (plus(price, number),)


def _ahead_of_stretch(span, deed):
    kind, begin, behind, thing = deed
    first, last, number = span
    if first <= behind <= last:
        # From the day behind on, the same is in force as ahead of the deed.
        return [(0, last, number)], (None,)
    if first <= begin <= last:
        return _ahead_of_begin(span, kind, thing)
    if not begin < first < behind:
        return [span], None
    if kind == "raise":
        return [(first, last, number + thing)], None
    return [], None


def _ahead_of_begin(span, kind, thing):
    _, last, number = span
    if kind == "cover":
        return [], (plus(thing, number),)
    if kind == "raise":
        return [(0, last, number + thing)], (None,)
    return [(0, thing, number)], (None,)


def _left_over(span, begin, end):
    """Return what is left of a span without some days, the later part ahead."""
    first, last, number = span
    parts = [(max(first, end + 1), last, number), (first, min(last, begin - 1), number)]
    return [part for part in parts if part[0] <= part[1]]


def _in_form(spans):
    """Return spans that tell the same, but share no day, and are as long as can be."""
    formed = []
    for span in spans:
        parts = [span]
        # A span is asked only if those ahead of it have no entry: their days
        # may be left out of it.
        for first, last, _ in formed:
            parts = [left for part in parts for left in _left_over(part, first, last)]
        for part in parts:
            formed = _joined(formed, part)
    return formed


def _joined(spans, span):
    """Return spans with one more, which becomes a part of the last one if it can."""
    if len(spans) == 0:
        return [span]
    first, last, number = spans[-1]
    if span[1] + 1 == first and span[2] == number:
        return spans[:-1] + [(span[0], last, number)]
    return spans + [span]
