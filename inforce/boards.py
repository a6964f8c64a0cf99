"""Boards, on which deeds are done, put in late and dropped."""

from inforce.compare import alike
from inforce.errors import InvalidDeed, LateDeed, NothingToUndo, UnknownDeed
from inforce.programs import Program, is_deed


class Board:
    """A price list at the beginning, and the deeds that are done on it."""

    def __init__(self, prices):
        self._beginning = prices
        self._program = Program([])
        self._prices = prices
        self._history = []

    def __call__(self, deed):
        """Do a deed behind all others; return the days on which it changes what is in force."""
        return self._go_on(self._program + Program([deed]))

    def late(self, deed, index):
        """Put in a deed as if it had come at an index; return the days likewise."""
        return self._go_on(self._with_late(deed, index))

    def drop(self, index):
        """Take out a deed as if it had never come; return the days likewise."""
        return self._go_on(self._program.without(index))

    @property
    def prices(self):
        """The price list now."""
        return self._prices

    @property
    def program(self):
        """The program of all deeds."""
        return self._program

    def undo(self):
        """Take back the last call, late deed or drop."""
        if len(self._history) == 0:
            raise NothingToUndo(0)
        self._program, self._prices = self._history.pop()

    def _with_late(self, deed, index):
        """Return the program with a deed put in at an index."""
        if not is_deed(deed):
            raise InvalidDeed(deed)
        deeds = self._program.deeds
        if not 0 <= index <= len(deeds):
            raise UnknownDeed(index)
        return Program(deeds[:index] + [deed] + deeds[index:])

    def _go_on(self, program):
        """Go on with another program; return the days on which something else is in force."""
        ahead, behind = self._prices, program.done(self._beginning)
        named = [day for day, _ in self._beginning.entries]
        # Of a dropped deed only the program ahead knows the days.
        named = named + self._program.days() + program.days()
        self._history.append((self._program, ahead))
        self._program, self._prices = program, behind
        return [day for day in range(max(named) + 2) if behind[day] != ahead[day]]

    def __len__(self):
        return len(self._program)

    def __eq__(self, other):
        return (
            isinstance(other, Board)
            and not isinstance(other, CalmBoard)
            and self._beginning == other._beginning
            and self._program == other._program
        )


class CalmBoard(Board):
    """A board on which no late deed may change what the deeds behind it do."""

    def __init__(self, prices):
        Board.__init__(self, prices)

    def late(self, deed, index):
        """Put in a deed, if it leaves the same there as behind all others; return the days."""
        program = self._with_late(deed, index)
        behind = program.deeds[index + 1:]
        if not alike(Program([deed] + behind), Program(behind + [deed])):
            raise LateDeed(index)
        return self._go_on(program)

    def __eq__(self, other):
        return (
            isinstance(other, CalmBoard)
            and self._beginning == other._beginning
            and self._program == other._program
        )
