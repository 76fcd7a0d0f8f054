"""Papers on whether there is a walker."""

from markladder.checks import is_lot_of, judge, lot_of, need
from markladder.kinds import is_index, is_table, is_tuple_of
from markladder.walkers import (are_lots, are_side_lots, below_gaps, below_lots, choices_by_sides, is_below_lot,
                                meets, narrowest_gap, side_lots, tops_above, tops_by_below, wider_lots)


def walker_paper(table, kind):
    """A paper that lets_walker accepts."""
    need_kind(table, kind)
    found = below_lots(table) if kind == "below" else side_lots(table)
    if len(found) > 0:
        return ("lot" if kind == "below" else "lots", found[0])
    tops = tops_by_below(table[1])
    if kind == "below":
        return ("none", tuple([(case, below_tree(tops, table[0], case)) for case in cases_of(table, kind)]))
    return ("none", tuple([(case, side_tree(tops, tuple(list(case)))) for case in cases_of(table, kind)]))


def lets_walker(table, kind, thing):
    """Whether there is a walker of this kind, as the paper says."""
    need_kind(table, kind)
    word = "lot" if kind == "below" else "lots"
    judge(is_tuple_of(thing, 2) and thing[0] in (word, "none"), "shape", -1)
    if thing[0] != "none":
        judge(is_walker(table, kind, thing[1]), word, -1)
        return True
    judge(are_pairs_for(thing[1], cases_of(table, kind)), "cases", -1)
    tops = tops_by_below(table[1])
    for case, tree in thing[1]:
        if kind == "below":
            judge_below(tops, table[0], case, tree, (case,))
        else:
            judge_sides(tops, tuple(list(case)), tree, (case,))
    return False


def need_kind(table, kind):
    """Refuses what is no table, and no kind of walkers."""
    need(is_table(table), "table")
    need(kind in ("below", "sides"), "kind")


def is_walker(table, kind, thing):
    """Whether any value is a below lot, or side lots."""
    marks = lot_of(table[1])
    if kind == "below":
        return is_lot_of(thing, marks) and is_below_lot(table, thing)
    return are_lots(table, thing) and are_side_lots(table, thing)


def cases_of(table, kind):
    """The list of what the cases are for: the marks, or the strings of a mark for each child."""
    marks = lot_of(table[1])
    return list(marks) if kind == "below" else choices_by_sides([marks for _ in range(table[0])])


def below_tree(tops, many, lot):
    """A tree for these marks, which lie in no below lot; the choice with the fewest tops makes the fewest branches."""
    choice = min(below_gaps(tops, many, lot), key=lambda gap: len(tops_above(tops, gap)))
    wider = [(top, lot_of([lot, top])) for top in tops_above(tops, choice)]
    return (choice, tuple([(top, below_tree(tops, many, more)) for top, more in wider]))


def side_tree(tops, lots):
    """A tree for these lots, which lie in no side lots; the choice with the fewest tops makes the fewest branches."""
    side, choice = narrowest_gap(tops, lots)
    wider = wider_lots(tops, lots, (side, choice))
    return (side, choice, tuple([(top, side_tree(tops, more)) for top, more in zip(tops_above(tops, choice), wider)]))


def are_pairs_for(thing, firsts):
    """Whether any value is a tuple of pairs with just these first elements, in this order."""
    if not is_tuple_of(thing, len(firsts)):
        return False
    return all([is_tuple_of(pair, 2) and pair[0] == first for pair, first in zip(thing, firsts)])


def is_choice_of(thing, lots):
    """Whether any value is a string of a mark of each of the lots."""
    if not isinstance(thing, str) or len(thing) != len(lots):
        return False
    return all([mark in lot for mark, lot in zip(thing, lots)])


def judge_below(tops, many, lot, tree, at):
    """Judges a tree for these marks, at being what leads to it."""
    judge(is_tuple_of(tree, 2) and isinstance(tree[1], tuple), "tree", at)
    choice, branches = tree
    judge(choice in below_gaps(tops, many, lot), "below", at)
    judge(are_pairs_for(branches, tops_above(tops, choice)), "branches", at)
    for top, branch in branches:
        judge_below(tops, many, lot_of([lot, top]), branch, (*at, top))


def judge_sides(tops, lots, tree, at):
    """Judges a tree for these lots, at being what leads to it."""
    judge(is_tuple_of(tree, 3) and isinstance(tree[2], tuple), "tree", at)
    side, choice, branches = tree
    judge(is_index(side, len(lots)), "side", at)
    judge(is_choice_of(choice, lots) and not meets(tops_above(tops, choice), lots[side]), "below", at)
    judge(are_pairs_for(branches, tops_above(tops, choice)), "branches", at)
    for (top, branch), more in zip(branches, wider_lots(tops, lots, (side, choice))):
        judge_sides(tops, more, branch, (*at, top))
