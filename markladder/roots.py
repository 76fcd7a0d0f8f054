"""Papers on roots."""

from markladder.arrows import arrows_from
from markladder.checks import judge, lot_of, need
from markladder.fulls import falling_lots, lasting_lot
from markladder.goodrows import ends_loose, good_rows, is_good_row, row_length
from markladder.kinds import is_index, is_integer, is_lot, is_table, is_tuple_of
from markladder.parts import parts_by, period_of_part, reached_by, steps_in_part


def root_paper(table):
    """A paper that lets_root accepts."""
    need(is_table(table), "table")
    rows = table[1]
    lots = falling_lots(rows, lot_of(rows))
    if lots[-1] == "":
        return ("never", lots)
    good = good_rows(table)
    for row in good:
        if ends_loose(rows, row):
            return ("ever", row)
    return ("root", max(good, key=len), tree_for(rows, lots[-1]))


def lets_root(table, thing):
    """The root of the table, as the paper says."""
    need(is_table(table), "table")
    judge(is_root_form(thing), "shape", -1)
    if thing[0] == "never":
        lots = falling_lots(table[1], lot_of(table[1]))
        judge(thing[1] == lots, "lots", -1)
        judge(lots[-1] == "", "lasts", -1)
        return 0
    row = thing[1]
    judge(is_good_row(table, row), "row", -1)
    if thing[0] == "ever":
        judge(ends_loose(table[1], row), "ends", -1)
        return None
    bound = judge_tree(table[1], row[0], thing[2], ())
    judge(bound == row_length(row), "root", -1)
    return bound


def is_root_form(thing):
    """Whether any value has one of the three forms of papers, with any lots, row and tree."""
    if is_tuple_of(thing, 2):
        return thing[0] in ("never", "ever")
    return is_tuple_of(thing, 3) and thing[0] == "root"


def tree_for(rows, lot):
    """A tree for the lot, of the parts of it, and of single marks that are in none."""
    arrows = arrows_from(rows, lot)
    reached = reached_by(arrows)
    parts = parts_by(arrows)
    singles = [mark for mark in lot if mark not in "".join(parts)]
    # What a piece leads to has fewer marks to lead to, itself counted, so it comes later.
    pieces = sorted([*parts, *singles], key=lambda piece: -len(lot_of([piece, reached[piece[0]]])))
    return tuple([piece_for(rows, arrows, piece) for piece in pieces])


def piece_for(rows, arrows, part):
    """The piece of a tree for a part, or for a mark that is in none."""
    period = period_of_part(arrows, part)
    if period == 1:
        return ("loose", part, tree_for(rows, lasting_lot(rows, part)))
    if period == 0:
        return ("kept", part, 2, (0,))
    steps = steps_in_part(arrows, part)
    return ("kept", part, period, tuple([steps[mark] % period for mark in part]))


def judge_tree(rows, lot, tree, at):
    """Judges a tree for the lot, at being the pieces that lead to it, and tells its bound."""
    judge(isinstance(tree, tuple), "tree", at)
    for index, piece in enumerate(tree):
        judge(is_piece(piece), "piece", (*at, index))
    judge(sorted("".join([piece[1] for piece in tree])) == list(lot), "parts", at)
    arrows = arrows_from(rows, lot)
    judge(not leads_back(arrows, [piece[1] for piece in tree]), "arrow", at)
    bounds = [judge_piece(rows, arrows, piece, (*at, index)) for index, piece in enumerate(tree)]
    return 1 + max(bounds, default=0)


def judge_piece(rows, arrows, piece, at):
    """Judges a piece of a tree; tells the bound of its tree, 0 if it has none or nothing lasts in it."""
    if piece[0] == "kept":
        judge(keeps_period(arrows, piece), "period", at)
        return 0
    inside = lasting_lot(rows, piece[1])
    bound = judge_tree(rows, inside, piece[2], at)
    return 0 if inside == "" else bound


def is_piece(thing):
    """Whether any value is a piece by form, with any value as the tree of a loose one."""
    if is_tuple_of(thing, 3):
        return thing[0] == "loose" and is_lot(thing[1]) and thing[1] != ""
    if not is_tuple_of(thing, 4) or thing[0] != "kept" or not is_lot(thing[1]) or thing[1] == "":
        return False
    _, part, period, numbers = thing
    if not is_integer(period) or period < 2 or not is_tuple_of(numbers, len(part)):
        return False
    return all([is_index(number, period) for number in numbers])


def leads_back(arrows, parts):
    """Whether some arrow leads from a mark of one of these parts to one of an earlier part."""
    indexes = {mark: index for index, part in enumerate(parts) for mark in part}
    return any([indexes[end] < indexes[mark] for mark in arrows for end in arrows[mark]])


def keeps_period(arrows, piece):
    """Whether each arrow within a kept piece leads from one number to the next one."""
    _, part, period, numbers = piece
    told = {mark: number for mark, number in zip(part, numbers)}
    ends = [(mark, end) for mark in part for end in arrows[mark] if end in part]
    return all([(told[mark] + 1) % period == told[end] for mark, end in ends])
