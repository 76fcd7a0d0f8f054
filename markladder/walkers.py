"""Walkers who lay marks from below: below lots, side lots and alike marks, and what they lay."""

from markladder.checks import is_lot_of, lot_of, need, need_lot
from markladder.kinds import is_shape, is_table, is_tuple_of
from markladder.nesting import children_in


def is_below_lot(table, lot):
    """Whether the lot is a below lot."""
    need_lot(table, lot)
    return lot != "" and below_gaps(tops_by_below(table[1]), table[0], lot) == []


def below_lots(table):
    """The set of all below lots."""
    need(is_table(table), "table")
    tops = tops_by_below(table[1])
    return tuple([lot for lot in some_lots(lot_of(table[1])) if below_gaps(tops, table[0], lot) == []])


def are_side_lots(table, lots):
    """Whether the lots are side lots."""
    need(is_table(table), "table")
    need(are_lots(table, lots), "lots")
    return are_sides(tops_by_below(table[1]), lots)


def side_lots(table):
    """The set of the least side lots."""
    need(is_table(table), "table")
    tops = tops_by_below(table[1])
    marks = lot_of(table[1])
    # All side lots have a choice of one mark for each side within them; what closes a gap of these is in them, too.
    waiting = [tuple(list(choice)) for choice in choices_by_sides([marks for _ in range(table[0])])]
    seen = {}
    found = []
    while len(waiting) > 0:
        lots = waiting.pop()
        if lots not in seen and not any([lies_within(less, lots) for less in found]):
            seen[lots] = True
            gap = narrowest_gap(tops, lots)
            if gap is None:
                found.append(lots)
            else:
                waiting.extend(wider_lots(tops, lots, gap))
    return tuple(sorted([one for one in found if not any([is_less(less, one) for less in found])]))


def alike_marks(table):
    """The lot of the marks of which a row consists alone."""
    need(is_table(table), "table")
    return "".join([row[0] for row in table[1] if row == row[0] * len(row)])


def walk_marking(table, lot, shape):
    """The whole marking that a walker lays by a below lot."""
    need(is_below_lot(table, lot), "lot")
    need(is_shape(table[0], shape), "shape")
    return laid(table, shape, [lot for _ in shape])


def side_marking(table, lots, shape):
    """The whole marking that a walker lays by side lots, who knows which child each place is."""
    need(are_side_lots(table, lots), "lots")
    need(is_shape(table[0], shape), "shape")
    told = [lots[0] for _ in shape]
    for children in children_in(table[0], shape):
        for child, lot in zip(children, lots):
            told[child] = lot
    return laid(table, shape, told)


def are_lots(table, thing):
    """Whether any value is a tuple of lots of marks of the table, one for each child."""
    marks = lot_of(table[1])
    return is_tuple_of(thing, table[0]) and all([is_lot_of(lot, marks) for lot in thing])


def some_lots(marks):
    """The list of all lots of some of these marks, ascending."""
    lots = [""]
    for mark in marks:
        lots.extend([lot + mark for lot in list(lots)])
    return sorted(lots)[1:]


def tops_by_below(rows):
    """For each string of marks below in these rows the lot of the tops of such rows."""
    tops = {}
    for row in rows:
        tops[row[1:]] = tops.get(row[1:], "") + row[0]
    return tops


def choices_below(many, lot):
    """The list of all strings of so many marks of the lot, in order, equal ones too, ascending."""
    choices = [""]
    for _ in range(many):
        choices = [choice + mark for choice in choices for mark in lot if mark >= choice[-1:]]
    return choices


def choices_by_sides(lots):
    """The list of all strings of a mark of each of the lots, ascending."""
    choices = [""]
    for lot in lots:
        choices = [choice + mark for choice in choices for mark in lot]
    return choices


def tops_above(tops, choice):
    """The lot of the tops of the rows with just these marks below, in any order."""
    return tops.get("".join(sorted(choice)), "")


def meets(lot, other):
    """Whether two lots have a mark in common."""
    return any([mark in other for mark in lot])


def below_gaps(tops, many, lot):
    """The list of the choices of so many marks of the lot over which none of its marks can stand."""
    return [choice for choice in choices_below(many, lot) if not meets(tops_above(tops, choice), lot)]


def side_gaps(tops, lots):
    """The list of the pairs of a side and a choice of a mark of each lot, over which no mark of the side can stand."""
    gaps = []
    for side, lot in enumerate(lots):
        for choice in choices_by_sides(lots):
            if not meets(tops_above(tops, choice), lot):
                gaps.append((side, choice))
    return gaps


def are_sides(tops, lots):
    """Whether lots, one for each child, are side lots."""
    if "" in lots:
        return False
    for choice in choices_by_sides(lots):
        found = tops_above(tops, choice)
        if not all([meets(found, lot) for lot in lots]):
            return False
    return True


def narrowest_gap(tops, lots):
    """Of the gaps of these lots one with the fewest tops over its choice, None without any."""
    return min(side_gaps(tops, lots), key=lambda gap: len(tops_above(tops, gap[1])), default=None)


def wider_lots(tops, lots, gap):
    """For each top over the choice of a gap these lots with this top on the side of the gap."""
    side, choice = gap
    return [(*lots[:side], lot_of([lots[side], top]), *lots[side + 1:]) for top in tops_above(tops, choice)]


def lies_within(lots, others):
    """Whether each of the lots has marks of the other with its index alone."""
    return all([is_lot_of(lot, other) for lot, other in zip(lots, others)])


def is_less(lots, others):
    """Whether the lots lie within others, and are not the same."""
    return lots != others and lies_within(lots, others)


def laid(table, shape, told):
    """The marking that is laid from below, each place with the least mark that it can have of the lot told for it."""
    tops = tops_by_below(table[1])
    children = children_in(table[0], shape)
    signs = [lot[0] for lot in told]
    for place in reversed(range(len(shape))):
        if children[place] != []:
            found = tops_above(tops, [signs[child] for child in children[place]])
            signs[place] = min([mark for mark in found if mark in told[place]])
    return "".join(signs)
