"""Right markings of shapes: faults, and all those that agree with a marking."""

from markladder.checks import lot_of, need, need_table_shape
from markladder.kinds import is_marking
from markladder.nesting import children_in


def faults_of(table, shape, marking):
    """The set of the places with a fault."""
    need_marking(table, shape, marking)
    marks = lot_of(table[1])
    faults = []
    for place, children in enumerate(children_in(table[0], shape)):
        below_marks = [marking[child] for child in children]
        if children == []:
            fault = marking[place] != "?" and marking[place] not in marks
        else:
            row = marking[place] + "".join(sorted(below_marks))
            fault = "?" not in row and row not in table[1]
        if fault:
            faults.append(place)
    return tuple(faults)


def is_right(table, shape, marking):
    """Whether the marking is whole and right."""
    return faults_of(table, shape, marking) == () and "?" not in marking


def tops_by(table, shape, marking):
    """The lot of the marks that the top has in the right whole markings that agree with marking."""
    need_marking(table, shape, marking)
    return possible_lots(table, shape, told_lots(table, marking))[0]


def filled(table, shape, marking):
    """The least right whole marking that agrees with marking, None if there is none."""
    need_marking(table, shape, marking)
    return least_within(table, shape, told_lots(table, marking))


def count_filled(table, shape, marking):
    """How many right whole markings agree with marking."""
    need_marking(table, shape, marking)
    marks = lot_of(table[1])
    settings = settings_of(table[1])
    children = children_in(table[0], shape)
    counts = [{} for _ in shape]
    for place in reversed(range(len(shape))):
        if children[place] == []:
            found = {mark: 1 for mark in marks}
        else:
            found = counts_over(settings, [counts[child] for child in children[place]])
        counts[place] = {mark: found[mark] for mark in found if marking[place] in ("?", mark)}
    return sum(list(counts[0].values()))


def forced(table, shape, marking):
    """The marking with the marks that are the same in all right whole markings that agree, None without these."""
    need_marking(table, shape, marking)
    lots = possible_lots(table, shape, told_lots(table, marking))
    if lots[0] == "":
        return None
    settings = settings_of(table[1])
    for place, children in enumerate(children_in(table[0], shape)):
        # The lots of the places ahead are final: those of the children lose what no top above them allows.
        below_lots = [lots[child] for child in children]
        orders = [order for top, order in settings if top in lots[place] and suits(order, below_lots)]
        for index, child in enumerate(children):
            lots[child] = lot_of([order[index] for order in orders])
    return "".join([lot if len(lot) == 1 else "?" for lot in lots])


def need_marking(table, shape, marking):
    """Refuses what is no marking, whole or not, for a shape for the many of a table."""
    need_table_shape(table, shape)
    need(is_marking(marking) and len(marking) == len(shape), "marking")


def told_lots(table, marking):
    """For each place the lot of the marks that it may have if a right marking agrees with this one."""
    marks = lot_of(table[1])
    return [marks if sign == "?" else sign for sign in marking]


def least_within(table, shape, told):
    """The least right whole marking in which each place has a mark of the lot told for it, None if there is none."""
    lots = possible_lots(table, shape, told)
    if lots[0] == "":
        return None
    settings = settings_of(table[1])
    signs = [lots[0][0] for _ in shape]
    for place, children in enumerate(children_in(table[0], shape)):
        if children != []:
            below_lots = [lots[child] for child in children]
            least = min([order for top, order in settings if top == signs[place] and suits(order, below_lots)])
            for child, mark in zip(children, least):
                signs[child] = mark
    return "".join(signs)


def possible_lots(table, shape, told):
    """For each place the lot of its marks in the right markings of its part, each place with a mark told for it."""
    marks = lot_of(table[1])
    settings = settings_of(table[1])
    children = children_in(table[0], shape)
    lots = ["" for _ in shape]
    for place in reversed(range(len(shape))):
        lot = marks
        if children[place] != []:
            lot = tops_over(settings, [lots[child] for child in children[place]])
        lots[place] = "".join([mark for mark in lot if mark in told[place]])
    return lots


def settings_of(rows):
    """The list of the pairs of a top and of marks of its children, in order, that these rows allow."""
    return [(row[0], order) for row in rows for order in orders_of(row[1:])]


def orders_of(marks):
    """The list of all orders of these marks, each one once."""
    if marks == "":
        return [""]
    orders = []
    for index, mark in enumerate(marks):
        if mark not in marks[:index]:
            orders.extend([mark + rest for rest in orders_of(marks[:index] + marks[index + 1:])])
    return orders


def suits(order, lots):
    """Whether each mark of the order is in the lot with its index."""
    return all([mark in lot for mark, lot in zip(order, lots)])


def tops_over(settings, lots):
    """The lot of the tops that can stand over children with marks of these lots."""
    return lot_of([top for top, order in settings if suits(order, lots)])


def counts_over(settings, counts):
    """For each top how many ways there are below it, counts telling this of each mark of each child."""
    found = {}
    for top, order in settings:
        ways = 1
        for mark, count in zip(order, counts):
            ways = ways * count.get(mark, 0)
        found[top] = found.get(top, 0) + ways
    return found
