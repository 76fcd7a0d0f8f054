"""Rings of marks, by which the depth alone tells the mark, and papers on them."""

from markladder.checks import is_mark_of, judge, lot_of, need
from markladder.kinds import is_shape, is_table, is_tuple_of
from markladder.nesting import depths_in


def is_ring(table, thing):
    """Whether any value is a ring of the table."""
    need(is_table(table), "table")
    return are_ring_marks(table, thing) and ring_gap(table, thing) is None


def ring_of(table):
    """A ring of the table, None if there is none."""
    need(is_table(table), "table")
    lot, _ = ring_lot(table)
    if lot == "":
        return None
    way = [lot[0]]
    while way[-1] not in way[:-1]:
        way.append(nexts_of(table, way[-1], lot)[0])
    return tuple(way[way.index(way[-1]):-1])


def ring_marking(table, ring, shape):
    """The whole marking in which the depth tells each place's mark of the ring."""
    need(is_ring(table, ring), "ring")
    need(is_shape(table[0], shape), "shape")
    return "".join([ring[depth % len(ring)] for depth in depths_in(table[0], shape)])


def ring_paper(table):
    """A paper that lets_ring accepts."""
    ring = ring_of(table)
    if ring is not None:
        return ("ring", ring)
    _, order = ring_lot(table)
    return ("none", order)


def lets_ring(table, thing):
    """Whether there is a ring, as the paper says."""
    need(is_table(table), "table")
    judge(is_ring_form(thing), "shape", -1)
    if thing[0] == "ring":
        judge(are_ring_marks(table, thing[1]), "ring", -1)
        gap = ring_gap(table, thing[1])
        judge(gap is None, "next", gap)
        return True
    judge_order(table, thing[1])
    return False


def is_ring_form(thing):
    """Whether any value is a pair of the word of a ring and a tuple, or of that of none and a string."""
    if not is_tuple_of(thing, 2):
        return False
    return (thing[0] == "ring" and isinstance(thing[1], tuple)) or (thing[0] == "none" and isinstance(thing[1], str))


def judge_order(table, order):
    """Judges an order of all marks, in which each mark is to stand ahead of those that can be alone below it."""
    judge(sorted(order) == list(lot_of(table[1])), "order", -1)
    for index, row in enumerate(table[1]):
        alone = row[1:] == row[1] * table[0]
        judge(not alone or order.index(row[0]) < order.index(row[1]), "row", index)


def are_ring_marks(table, thing):
    """Whether any value is a nonempty tuple of different marks of the table."""
    marks = lot_of(table[1])
    if not isinstance(thing, tuple) or not all([is_mark_of(mark, marks) for mark in thing]):
        return False
    return 0 < len(thing) == len(lot_of(thing))


def ring_gap(table, ring):
    """The index of the first mark of the ring that cannot stand over the next one alone, None without such a one."""
    for index, mark in enumerate(ring):
        following = ring[(index + 1) % len(ring)]
        if mark + following * table[0] not in table[1]:
            return index
    return None


def nexts_of(table, mark, lot):
    """The lot of the marks of this lot that can be alone below the mark."""
    return "".join([end for end in lot if mark + end * table[0] in table[1]])


def ring_lot(table):
    """The marks from which steps to marks alone below go on without end, and the other ones, in a right order."""
    lot = lot_of(table[1])
    order = ""
    ended = [mark for mark in lot if nexts_of(table, mark, lot) == ""]
    while ended != []:
        order = "".join(ended) + order
        lot = "".join([mark for mark in lot if mark not in ended])
        ended = [mark for mark in lot if nexts_of(table, mark, lot) == ""]
    return lot, order
