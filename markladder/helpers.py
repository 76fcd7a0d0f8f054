"""A helper who lays bits, as an object."""

from markladder.bitcodes import bits_of, code_of, looks_of, period_of, width_of
from markladder.bitmarks import lets_bits, marking_by
from markladder.checks import is_mark_of, lot_of, need
from markladder.kinds import is_number, is_table
from markladder.seenmarks import mark_seen
from markladder.views import view_of


class Helper:
    """A helper for a table, with a gap; it never changes."""

    def __init__(self, table, gap):
        need(is_table(table), "table")
        need(is_number(gap), "gap")
        self.table = table
        self.gap = gap
        self.codes = [(mark, code_of(table, mark)) for mark in lot_of(table[1])]

    @property
    def table_now(self):
        """The table."""
        return self.table

    @property
    def gap_now(self):
        """The gap."""
        return self.gap

    @property
    def width_now(self):
        """The width of the table."""
        return width_of(self.table)

    @property
    def period_now(self):
        """The period by the gap."""
        return period_of(self.table, self.gap)

    @property
    def sight_now(self):
        """How many steps a place has to look around to tell its mark."""
        return looks_of(self.table, self.gap)

    def marking(self, shape, bits):
        """The marking that the bits tell."""
        return marking_by(self.table, shape, bits, self.gap)

    def judged(self, shape, bits):
        """The marking that the bits tell, if all places let them."""
        return lets_bits(self.table, shape, bits, self.gap)

    def view(self, shape, bits, place):
        """What the place sees."""
        return view_of(self.table[0], shape, bits, place, self.sight_now)

    def seen(self, view):
        """The mark that a place tells by its view."""
        return mark_seen(self.table, view, self.gap)

    def __call__(self, shape, marking):
        return bits_of(self.table, shape, marking, self.gap)

    def __eq__(self, other):
        return isinstance(other, Helper) and self.table == other.table and self.gap == other.gap

    def __len__(self):
        return len(self.codes)

    def __iter__(self):
        return iter(self.codes)

    def __contains__(self, x):
        return is_mark_of(x, lot_of(self.table[1]))

    def __getitem__(self, at):
        return code_of(self.table, at)

    def __add__(self, other):
        need(is_number(other), "more")
        return Helper(self.table, self.gap + other)
