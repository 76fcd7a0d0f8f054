"""Parts of a lot, their periods and reaches."""

from math import gcd

from markladder.arrows import arrows_from, need_two, one_step
from markladder.checks import lot_of, need, need_lot


def parts_in(table, lot):
    """The tuple of the pairs (part, period) of the lot, ascending by the part."""
    need_lot(table, lot)
    arrows = arrows_from(table[1], lot)
    return tuple([(part, period_of_part(arrows, part)) for part in parts_by(arrows)])


def loose_parts(table, lot):
    """The set of the loose parts of the lot."""
    need_lot(table, lot)
    return loose_by(arrows_from(table[1], lot))


def reach_of(table, lot, part):
    """The reach of a loose part of the lot."""
    need_lot(table, lot)
    arrows = arrows_from(table[1], lot)
    need(part in loose_by(arrows), "part")
    # No way between marks of a part leaves it, and each of its marks has an arrow to it: once all is reached,
    # it stays so.
    reach = 1
    ends = {mark: inner_step(arrows, part, mark) for mark in part}
    while any([ends[mark] != part for mark in part]):
        ends = {mark: inner_step(arrows, part, ends[mark]) for mark in part}
        reach = reach + 1
    return reach


def leads(table, lot, one, other):
    """Whether a way of one step or more leads from one to other."""
    need_two(table, lot, one, other)
    return other in reached_by(arrows_from(table[1], lot))[one]


def inner_step(arrows, part, lot):
    """The lot of the marks of the part to which arrows lead from marks of the lot."""
    return "".join([mark for mark in one_step(arrows, lot) if mark in part])


def reached_by(arrows):
    """For each mark the lot of those to which ways of one step or more lead from it."""
    reached = {}
    for mark in arrows:
        lot = arrows[mark]
        wider = lot_of([lot, one_step(arrows, lot)])
        while wider != lot:
            lot = wider
            wider = lot_of([lot, one_step(arrows, lot)])
        reached[mark] = lot
    return reached


def parts_by(arrows):
    """The set of the parts that these arrows make."""
    reached = reached_by(arrows)
    parts = []
    for mark in arrows:
        part = "".join([end for end in reached[mark] if mark in reached[end]])
        if part != "" and part not in parts:
            parts.append(part)
    return tuple(parts)


def loose_by(arrows):
    """The set of the loose parts that these arrows make."""
    return tuple([part for part in parts_by(arrows) if period_of_part(arrows, part) == 1])


def steps_in_part(arrows, part):
    """For each mark of the part the least number of steps to it from the first one."""
    steps = {}
    number = 0
    lot = part[0]
    while lot != "":
        steps.update({mark: number for mark in lot})
        number = number + 1
        lot = "".join([mark for mark in inner_step(arrows, part, lot) if mark not in steps])
    return steps


def period_of_part(arrows, part):
    """The period of the part: what all differences of steps along its arrows have in common."""
    steps = steps_in_part(arrows, part)
    period = 0
    for mark in part:
        for end in inner_step(arrows, part, mark):
            period = gcd(period, abs(steps[mark] + 1 - steps[end]))
    return period
