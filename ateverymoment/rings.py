"""Rings: the moments at which answers turn."""

from ateverymoment.answers import row_table, rows_at, tables_of
from ateverymoment.combining import any_of
from ateverymoment.finding import count_before, next_moment, nth_moment, turns


def ringing(answer, *, row=None):
    """Return the table of the rings of the row, or of the answer if the row is None."""
    if row is not None:
        return turns(row_table(answer, row))
    return any_of(answer[0], [turns(table) for table in tables_of(answer).values()])


def next_ring(answer, after, *, row=None):
    """Return the least ring that is greater than the integer, or None."""
    return next_moment(ringing(answer, row=row), after + 1)


def ring_at(answer, n, *, row=None):
    """Return the moment of ring number n, counted from 0, or None if there are not so many."""
    return nth_moment(ringing(answer, row=row), n)


def rings_before(answer, moment, *, row=None):
    """Return the number of rings that are less than the integer."""
    return count_before(ringing(answer, row=row), moment)


def some_rings(answer, count, *, after=-1, row=None):
    """Yield the rings that are greater than `after`, in ascending order, at most `count` of them."""
    table = ringing(answer, row=row)
    found = after
    for _ in range(count):
        found = next_moment(table, found + 1)
        if found is None:
            return
        yield found


def turned(answer, moment):
    """Return the tuple of the rows that answer at the moment and not at the one before it, and that of the reverse."""
    now, before = rows_at(answer, moment), rows_at(answer, moment - 1)
    return rows_without(now, before), rows_without(before, now)


def rows_without(rows, others):
    """Return the tuple of the rows that are not among the others."""
    known = {row: True for row in others}
    return tuple([row for row in rows if row not in known])


class Bell:
    """Watches a kept question of a store, or one row of it.

    It holds no answer: each call asks the store for the one that it keeps now.
    """

    def __init__(self, store, number, *, row=None):
        store.kept(number)
        self.store = store
        self.number = number
        self.row = row
        self.moment = -1
        self.count = 0

    def forward(self):
        """Go to the next ring and return it, or return None if there is none."""
        ring = next_ring(self.store.kept(self.number), self.moment, row=self.row)
        if ring is not None:
            self.moment = ring
            self.count += 1
        return ring

    def advance(self, to):
        """Go to the integer, if it is greater than the bell's moment, and return the number of rings on the way."""
        answer = self.store.kept(self.number)
        if to <= self.moment:
            return 0
        passed = rings_before(answer, to + 1, row=self.row) - rings_before(answer, self.moment + 1, row=self.row)
        self.moment = to
        self.count += passed
        return passed
