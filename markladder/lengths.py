"""How many steps ways can have, and how many ways there are."""

from markladder.arrows import arrows_from, ends_after, need_two, one_step
from markladder.checks import need
from markladder.kinds import is_number


def lengths_of(table, lot, one, other):
    """All numbers of steps of ways from one to other, as a quadruple (firsts, start, rests, period)."""
    need_two(table, lot, one, other)
    lots, start = ends_until_again(arrows_from(table[1], lot), one)
    hits = [other in ends for ends in lots]
    period = least_period(hits[start:])
    while start > 0 and hits[start - 1] == hits[start - 1 + period]:
        start = start - 1
    firsts = [steps for steps in range(start) if hits[steps]]
    rests = [steps % period for steps in range(start, start + period) if hits[steps]]
    return (tuple(firsts), start, tuple(sorted(rests)), period)


def is_length(table, lot, one, other, steps):
    """Whether there is a way from one to other of so many steps."""
    need_two(table, lot, one, other)
    need(is_number(steps), "steps")
    return other in ends_after(arrows_from(table[1], lot), one, steps)


def how_many_ways(table, lot, one, other, steps):
    """How many ways from one to other of so many steps there are."""
    need_two(table, lot, one, other)
    need(is_number(steps), "steps")
    arrows = arrows_from(table[1], lot)
    counts = {mark: 1 if mark == other else 0 for mark in lot}
    for _ in range(steps):
        counts = counts_ahead(arrows, counts)
    return counts[one]


def counts_ahead(arrows, counts):
    """For each mark how many ways there are with one step more at their beginning."""
    return {mark: sum([counts[end] for end in arrows[mark]]) for mark in arrows}


def ends_until_again(arrows, one):
    """The lots of the ends of ways from one, step by step, until one comes again, and the index of that one."""
    lots = []
    indexes = {}
    lot = one
    while lot not in indexes:
        indexes[lot] = len(lots)
        lots.append(lot)
        lot = one_step(arrows, lot)
    return lots, indexes[lot]


def least_period(hits):
    """The length of the shortest list of which these hits are a repetition."""
    period = 1
    while hits != hits[:period] * (len(hits) // period):
        period = period + 1
    return period
