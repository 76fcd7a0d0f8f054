"""Full shapes, what lasts, and how it falls away."""

from markladder.checks import is_mark_of, lot_of, need, need_lot
from markladder.kinds import is_number, is_one_of, is_table
from markladder.tableparts import rows_inside, tops_in


def full_shape(many, height):
    """The full shape of this height."""
    need(is_one_of(many, (2, 3)), "many")
    need(is_number(height), "height")
    shape = "."
    for _ in range(height):
        shape = "+" + shape * many
    return shape


def falling(table, lot):
    """The falling row of the lot."""
    need_lot(table, lot)
    return falling_lots(table[1], lot)


def lasting(table, lot):
    """The lot of the marks that last in the lot."""
    need_lot(table, lot)
    return lasting_lot(table[1], lot)


def full_marking(table, lot, mark, height):
    """The least right marking, of marks of the lot, of the full shape with this mark at its top, or None."""
    need_lot(table, lot)
    need(is_mark_of(mark, lot), "mark")
    need(is_number(height), "height")
    rows = rows_inside(table[1], lot)
    markings = {top: top for top in lot}
    for _ in range(height):
        markings = higher_markings(rows, markings)
    return markings.get(mark)


def never_height(table):
    """The least height of a full shape that cannot be marked right, None if there is none."""
    need(is_table(table), "table")
    lots = falling_lots(table[1], lot_of(table[1]))
    return len(lots) - 1 if lots[-1] == "" else None


def falling_lots(rows, lot):
    """The falling row of the lot by these rows."""
    lots = [lot]
    tops = tops_in(rows_inside(rows, lot))
    while tops != lots[-1]:
        lots.append(tops)
        tops = tops_in(rows_inside(rows, tops))
    return tuple(lots)


def lasting_lot(rows, lot):
    """What lasts in the lot by these rows."""
    return falling_lots(rows, lot)[-1]


def higher_markings(rows, markings):
    """For each top its least marking of the full shape of the next height, from those of this height.

    The markings of one height are equally long, so the least row of a top makes its least marking.
    """
    higher = {}
    for row in rows:
        if row[0] not in higher and all([mark in markings for mark in row[1:]]):
            higher[row[0]] = row[0] + "".join([markings[mark] for mark in row[1:]])
    return higher
