"""Parts of tables: marks, tops, rows."""

from markladder.checks import is_mark_of, lot_of, need
from markladder.kinds import is_lot, is_table


def marks_of(table):
    """The lot of the marks of the table."""
    need(is_table(table), "table")
    return lot_of(table[1])


def tops_of(table):
    """The lot of the tops of the table."""
    need(is_table(table), "table")
    return tops_in(table[1])


def rows_of(table, mark):
    """The tuple of the rows with this top."""
    need(is_table(table), "table")
    need(is_mark_of(mark, lot_of(table[1])), "mark")
    return tuple([row for row in table[1] if row[0] == mark])


def below(table, mark):
    """The lot of the marks below this one in some row."""
    return lot_of([row[1:] for row in rows_of(table, mark)])


def rows_within(table, lot):
    """The tuple of the rows of which all marks are in the lot."""
    need(is_table(table), "table")
    need(is_lot(lot), "lot")
    return rows_inside(table[1], lot)


def rows_inside(rows, lot):
    """Those of these rows that are within the lot."""
    return tuple([row for row in rows if all([mark in lot for mark in row])])


def tops_in(rows):
    """The lot of the tops of these rows."""
    return lot_of([row[0] for row in rows])
