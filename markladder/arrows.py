"""Arrows and ways of marks."""

from markladder.checks import is_mark_of, lot_of, need, need_lot
from markladder.kinds import is_number
from markladder.tableparts import rows_inside


def arrows_in(table, lot):
    """The set of the arrows in the lot, each as a string of two marks."""
    need_lot(table, lot)
    arrows = arrows_from(table[1], lot)
    return tuple([mark + end for mark in lot for end in arrows[mark]])


def arrow_row(table, lot, one, other):
    """The least row within the lot with one as its top and other below, None if there is none."""
    need_two(table, lot, one, other)
    rows = [row for row in rows_inside(table[1], lot) if row[0] == one and other in row[1:]]
    return rows[0] if len(rows) > 0 else None


def ends_by(table, lot, mark, steps):
    """The lot of the marks to which ways of so many steps lead from the mark."""
    need_lot(table, lot)
    need(is_mark_of(mark, lot), "mark")
    need(is_number(steps), "steps")
    return ends_after(arrows_from(table[1], lot), mark, steps)


def way_of(table, lot, one, other, steps):
    """The least way from one to other of so many steps, None if there is none."""
    need_two(table, lot, one, other)
    need(is_number(steps), "steps")
    return least_of(arrows_from(table[1], lot), one, other, steps)


def least_way(table, lot, one, other):
    """The least of the ways from one to other with the fewest steps, at least one, None if there is none."""
    need_two(table, lot, one, other)
    arrows = arrows_from(table[1], lot)
    # A way that comes by no mark twice has at most as many steps as the lot has marks.
    for steps in range(1, len(lot) + 1):
        way = least_of(arrows, one, other, steps)
        if way is not None:
            return way
    return None


def need_two(table, lot, one, other):
    """Refuses what are no two marks of a lot of marks of a table."""
    need_lot(table, lot)
    need(is_mark_of(one, lot), "one")
    need(is_mark_of(other, lot), "other")


def arrows_from(rows, lot):
    """For each mark of the lot the lot of the marks to which an arrow leads from it."""
    inside = rows_inside(rows, lot)
    return {mark: lot_of([row[1:] for row in inside if row[0] == mark]) for mark in lot}


def one_step(arrows, lot):
    """The lot of the marks to which arrows lead from marks of the lot."""
    return lot_of([arrows[mark] for mark in lot])


def ends_after(arrows, mark, steps):
    """The lot of the marks to which ways of so many steps lead from the mark.

    The arrows are doubled, so that very many steps are taken at once.
    """
    lot = mark
    doubled = arrows
    while steps > 0:
        if steps % 2 == 1:
            lot = one_step(doubled, lot)
        doubled = {start: one_step(doubled, doubled[start]) for start in doubled}
        steps = steps // 2
    return lot


def least_of(arrows, one, other, steps):
    """The least way from one to other of so many steps, None if there is none."""
    ahead = [other]
    for _ in range(steps):
        ends = ahead[-1]
        ahead.append("".join([mark for mark in arrows if any([end in ends for end in arrows[mark]])]))
    if one not in ahead[-1]:
        return None
    marks = [one]
    for index in range(steps):
        ends = ahead[steps - 1 - index]
        marks.append(min([mark for mark in arrows[marks[-1]] if mark in ends]))
    return "".join(marks)
