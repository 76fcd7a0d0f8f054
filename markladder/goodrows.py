"""Good rows of a table, and its root."""

from markladder.arrows import arrows_from
from markladder.checks import lot_of, need, need_lot
from markladder.fulls import lasting_lot
from markladder.kinds import is_number, is_table
from markladder.parts import loose_by


def next_lots(table, lot):
    """The set of the pairs of a loose part of the lot and of what lasts in it."""
    need_lot(table, lot)
    return next_pairs(table[1], lot)


def good_rows(table):
    """The set of the good rows that cannot go on, or only by their last lot again and again."""
    need(is_table(table), "table")
    first = first_lot(table[1])
    done = []
    rows = [] if first == "" else [(first,)]
    while len(rows) > 0:
        later = [rows_behind(table[1], row) for row in rows]
        done.extend([row for row, longer in zip(rows, later) if longer == []])
        rows = [row for longer in later for row in longer]
    return tuple(sorted(done))


def is_good_row(table, thing):
    """Whether any value is a good row."""
    need(is_table(table), "table")
    if not isinstance(thing, tuple) or len(thing) % 2 == 0:
        return False
    if thing[0] == "" or thing[0] != first_lot(table[1]):
        return False
    pairs = {}
    for index in range(1, len(thing), 2):
        lot = thing[index - 1]
        if lot not in pairs:
            pairs[lot] = next_pairs(table[1], lot)
        if thing[index + 1] == "" or (thing[index], thing[index + 1]) not in pairs[lot]:
            return False
    return True


def root_of(table):
    """The root: the greatest length of a good row, 0 without any, None if there are some of every length."""
    rows = good_rows(table)
    if any([ends_loose(table[1], row) for row in rows]):
        return None
    return max([row_length(row) for row in rows], default=0)


def at_least(table, k):
    """Whether the root is None, or at least k."""
    need(is_table(table), "table")
    need(is_number(k), "k")
    root = root_of(table)
    return root is None or root >= k


def first_lot(rows):
    """What lasts in the lot of all marks of these rows."""
    return lasting_lot(rows, lot_of(rows))


def next_pairs(rows, lot):
    """The set of the pairs of a loose part of the lot and of what lasts in it, by these rows."""
    return tuple([(part, lasting_lot(rows, part)) for part in loose_by(arrows_from(rows, lot))])


def rows_behind(rows, row):
    """The list of the good rows with one lot V more than this one, none if it goes on by its last lot."""
    if ends_loose(rows, row):
        return []
    return [(*row, part, lasts) for part, lasts in next_pairs(rows, row[-1]) if lasts != ""]


def ends_loose(rows, row):
    """Whether the last lot of a good row is a loose part of itself."""
    return row[-1] in loose_by(arrows_from(rows, row[-1]))


def row_length(row):
    """How many lots of a good row are no loose parts of the one before."""
    return (len(row) + 1) // 2
