"""Sets of moments as objects with operators."""

from ateverymoment.combining import both, either, just_one, opposite, without
from ateverymoment.errors import NoCycle, NoTable
from ateverymoment.finding import next_moment
from ateverymoment.passing import shifted
from ateverymoment.tables import holds, is_cycle, is_table, shortest
from ateverymoment.whens import when_table


class Times:
    """A set of moments. It never changes; the operators create new sets."""

    def __init__(self, table):
        if not is_table(table):
            raise NoTable("the value is not a table")
        self.table = shortest(table)

    @staticmethod
    def made(cycle, when):
        """Return the set of the moments of the "when"."""
        if not is_cycle(cycle):
            raise NoCycle("the cycle is not from 1 to 60")
        return Times(when_table(cycle, when))

    @property
    def as_table(self):
        """The shortest table of the set."""
        return self.table

    @property
    def first_moment(self):
        """The least moment in the set, or None."""
        return next_moment(self.table, 0)

    def __contains__(self, x):
        """Return True if the integer is a moment in the set, otherwise False."""
        return holds(self.table, x)

    def __bool__(self):
        """Return True if some moment is in the set, otherwise False."""
        return next_moment(self.table, 0) is not None

    def __and__(self, other):
        """Return the set of the moments in both sets."""
        return Times(both(self.table, other.table))

    def __or__(self, other):
        """Return the set of the moments in at least one of the sets."""
        return Times(either(self.table, other.table))

    def __sub__(self, other):
        """Return the set of the moments in this set and not in the other one."""
        return Times(without(self.table, other.table))

    def __xor__(self, other):
        """Return the set of the moments in just one of the sets."""
        return Times(just_one(self.table, other.table))

    def __invert__(self):
        """Return the set of the moments that are not in this set."""
        return Times(opposite(self.table))

    def __lshift__(self, other):
        """Return the set shifted by the integer."""
        return Times(shifted(self.table, other))

    def __rshift__(self, other):
        """Return the set shifted by the negative of the integer."""
        return Times(shifted(self.table, -other))
