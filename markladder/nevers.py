"""Papers on whether some shape cannot be marked right."""

from markladder.checks import judge, lot_of, need
from markladder.fulls import falling_lots
from markladder.kinds import is_table, is_tuple_of
from markladder.tableparts import rows_inside, tops_in


def never_paper(table):
    """A paper that lets_never accepts."""
    need(is_table(table), "table")
    lots = falling_lots(table[1], lot_of(table[1]))
    if lots[-1] == "":
        return ("never", lots)
    return ("ever", rows_inside(table[1], lots[-1]))


def lets_never(table, thing):
    """Whether some shape cannot be marked right, as the paper says."""
    need(is_table(table), "table")
    judge(is_tuple_of(thing, 2) and isinstance(thing[1], tuple), "shape", -1)
    if thing[0] == "never":
        judge_lots(falling_lots(table[1], lot_of(table[1])), thing[1])
        return True
    judge(thing[0] == "ever", "shape", -1)
    judge_rows(table[1], thing[1])
    return False


def judge_lots(lots, told):
    """Judges lots that are told to be these ones, the last of which is the empty one."""
    for index, lot in enumerate(told):
        judge(index < len(lots) and lot == lots[index], "lot", index)
    judge(len(told) > 0 and told[-1] == "", "end", -1)


def judge_rows(rows, told):
    """Judges rows that are told to be some of these ones, each mark below being the top of one of them."""
    judge(len(told) > 0, "none", -1)
    for index, row in enumerate(told):
        judge(row in rows and (index == 0 or row > told[index - 1]), "row", index)
    tops = tops_in(told)
    for index, row in enumerate(told):
        judge(all([mark in tops for mark in row[1:]]), "below", index)
