"""Markings of shapes that are peeled in rounds, by good rows."""

from markladder.checks import lot_of, need, need_table_shape
from markladder.errors import NoMarking
from markladder.fulls import lasting_lot
from markladder.goodrows import is_good_row, row_length
from markladder.kinds import is_marking, is_positive, is_shape, is_table
from markladder.marking import is_right, least_within
from markladder.parts import reach_of
from markladder.peeling import taken_in


def round_marking(table, row, shape, g, l):
    """A right whole marking by which each place has a mark of the lot of its round."""
    need_rounds(table, row, shape, g, l)
    return least_within(table, shape, round_lots(table[0], row, shape, g, l))


def agrees(table, row, shape, g, l, marking):
    """Whether a whole marking is right, and each place has a mark of the lot of its round."""
    need_rounds(table, row, shape, g, l)
    need(is_marking(marking) and len(marking) == len(shape) and "?" not in marking, "marking")
    lots = round_lots(table[0], row, shape, g, l)
    return is_right(table, shape, marking) and all([mark in lot for mark, lot in zip(marking, lots)])


def top_marking(table, shape):
    """A right whole marking of marks alone that last in the lot of all marks."""
    need_table_shape(table, shape)
    lot = lasting_lot(table[1], lot_of(table[1]))
    if lot == "":
        raise NoMarking(shape)
    return least_within(table, shape, [lot for _ in shape])


def need_rounds(table, row, shape, g, l):
    """Refuses what no marking by rounds can be laid by."""
    need(is_table(table), "table")
    need(is_good_row(table, row), "row")
    need(is_shape(table[0], shape), "shape")
    need(is_positive(g), "g")
    need(is_positive(l) and l >= greatest_reach(table, row), "l")


def greatest_reach(table, row):
    """The greatest reach of a loose part of a good row in the lot before it, 0 without any."""
    return max([reach_of(table, row[index - 1], row[index]) for index in range(1, len(row), 2)], default=0)


def round_lots(many, row, shape, g, l):
    """For each place the lot of the good row for the word by which it is taken, and for its round."""
    taken = taken_in(many, shape, g, l, row_length(row))
    return [row[2 * number - 2] if word == "peel" else row[2 * number - 1] for word, number in taken]
