"""Price lists and programs, read from their texts."""

from inforce.errors import Unreadable
from inforce.lists import PriceList
from inforce.programs import THINGS, Program, is_deed

_DIGITS = "0123456789"


def read_prices(text):
    """Return the price list that has a text."""
    entries = []
    for word in _parts(text, " "):
        day, _, price = word.partition("=")
        if not _is_day(day) or not _is_price(price):
            raise Unreadable(text)
        entries.append((int(day), _value(price)))
    if not _ascend(entries):
        raise Unreadable(text)
    return PriceList(entries)


def read_program(text):
    """Return the program that has a text."""
    deeds = []
    for part in _parts(text, "; "):
        deed = _deed(part.split(" "))
        if deed is None:
            raise Unreadable(text)
        deeds.append(deed)
    return Program(deeds)


def _parts(text, separator):
    # Split, the empty text would be one empty part.
    if text == "":
        return []
    return text.split(separator)


def _ascend(entries):
    return all([one[0] < other[0] for one, other in zip(entries, entries[1:])])


def _deed(words):
    """Return the deed with these words, None if there is none."""
    kind = words[0]
    if kind not in THINGS or len(words) != 1 + len(THINGS[kind]):
        return None
    if not all([_is_thing(word, thing) for word, thing in zip(words[1:], THINGS[kind])]):
        return None
    deed = tuple([kind] + [_value(word) for word in words[1:]])
    if not is_deed(deed):
        return None
    return deed


def _is_thing(word, thing):
    # Which integers are days of a deed, is_deed tells.
    if thing == "price":
        return _is_price(word)
    return _is_integer(word)


def _is_day(word):
    if not 1 <= len(word) <= 4 or not all([sign in _DIGITS for sign in word]):
        return False
    return word == "0" or word[0] != "0"


def _is_integer(word):
    if word[:1] == "-":
        return word != "-0" and _is_day(word[1:])
    return _is_day(word)


def _is_price(word):
    return word == "-" or _is_integer(word)


def _value(word):
    if word == "-":
        return None
    return int(word)
