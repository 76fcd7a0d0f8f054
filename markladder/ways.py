"""Papers on whether there is a way of so many steps."""

from markladder.arrows import arrows_from, least_of, need_two, one_step
from markladder.checks import is_lot_of, judge, need
from markladder.kinds import is_number, is_tuple_of


def way_paper(table, lot, one, other, steps):
    """A paper that lets_way accepts."""
    need_two(table, lot, one, other)
    need(is_number(steps), "steps")
    arrows = arrows_from(table[1], lot)
    way = least_of(arrows, one, other, steps)
    if way is not None:
        return ("way", way)
    lots = [one]
    for _ in range(steps):
        lots.append(one_step(arrows, lots[-1]))
    return ("none", tuple(lots))


def lets_way(table, lot, one, other, steps, thing):
    """Whether there is a way from one to other of so many steps, as the paper says."""
    need_two(table, lot, one, other)
    need(is_number(steps), "steps")
    judge(is_way_form(thing), "shape", -1)
    judge(len(thing[1]) == steps + 1, "many", -1)
    arrows = arrows_from(table[1], lot)
    if thing[0] == "way":
        judge_way(arrows, one, other, thing[1])
        return True
    judge_ends(arrows, one, other, thing[1])
    return False


def is_way_form(thing):
    """Whether any value is a pair of the word of a way and a string, or of that of none and a tuple."""
    if not is_tuple_of(thing, 2):
        return False
    return (thing[0] == "way" and isinstance(thing[1], str)) or (thing[0] == "none" and isinstance(thing[1], tuple))


def judge_way(arrows, one, other, way):
    """Judges a string that is told to be a way from one to other."""
    for index, sign in enumerate(way):
        stands = sign == one if index == 0 else sign in arrows[way[index - 1]]
        judge(stands and (index < len(way) - 1 or sign == other), "sign", index)


def judge_ends(arrows, one, other, lots):
    """Judges lots that are told to hold all ends of ways from one, step by step, and not to end with other."""
    marks = "".join(list(arrows))
    for index, lot in enumerate(lots):
        needed = one if index == 0 else one_step(arrows, lots[index - 1])
        judge(is_lot_of(lot, marks) and all([mark in lot for mark in needed]), "lot", index)
    judge(other not in lots[-1], "other", -1)
