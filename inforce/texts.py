"""The texts of price lists and programs."""


def show_prices(prices):
    """Return the text of a price list."""
    return " ".join([str(day) + "=" + _shown(price) for day, price in prices.entries])


def show_program(program):
    """Return the text of a program."""
    return "; ".join([" ".join([_shown(thing) for thing in deed]) for deed in program.deeds])


def _shown(thing):
    if thing is None:
        return "-"
    return str(thing)
