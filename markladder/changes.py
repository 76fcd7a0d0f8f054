"""Changes of tables, shapes and trees; each gives a new one."""

from markladder.checks import lot_of, need, need_place, need_tree_place
from markladder.kinds import ascends, is_label, is_lot, is_mark, is_row, is_shape, is_table, is_tree, is_tuple_of
from markladder.nesting import has_children, part_end
from markladder.tableparts import rows_inside


def with_row(table, row):
    """The table with a row that it lacks."""
    need(is_table(table), "table")
    many, rows = table
    need(is_row(many, row) and row not in rows, "row")
    return (many, tuple(sorted([*rows, row])))


def without_row(table, row):
    """The table without a row of it that is not the only one."""
    need(is_table(table), "table")
    many, rows = table
    need(row in rows and len(rows) > 1, "row")
    return (many, tuple([kept for kept in rows if kept != row]))


def cut_to(table, lot):
    """The table of the rows within the lot; there must be some."""
    need(is_table(table), "table")
    need(is_lot(lot) and len(rows_inside(table[1], lot)) > 0, "lot")
    return (table[0], rows_inside(table[1], lot))


def renamed(table, names):
    """The table in which each old mark becomes its new one, all at once."""
    need(is_table(table), "table")
    need(are_names(names), "names")
    many, rows = table
    marks = lot_of(rows)
    news = dict([(mark, mark) for mark in marks] + list(names))
    need(len(lot_of([news[mark] for mark in marks])) == len(marks), "names")
    return (many, tuple(sorted([renamed_row(row, news) for row in rows])))


def are_names(thing):
    """Whether any value is a tuple of pairs of marks, the first ones ascending."""
    if not isinstance(thing, tuple):
        return False
    if not all([is_tuple_of(pair, 2) and is_mark(pair[0]) and is_mark(pair[1]) for pair in thing]):
        return False
    return ascends([old for old, _ in thing])


def renamed_row(row, news):
    """The row with other marks, those below in order again."""
    return news[row[0]] + "".join(sorted([news[mark] for mark in row[1:]]))


def sprouted(many, shape, place):
    """The shape in which a place without children has children without children."""
    need_place(many, shape, place)
    need(not has_children(shape[place]), "place")
    return shape[:place] + "+" + "." * many + shape[place + 1:]


def pruned(many, shape, place):
    """The shape in which a place with children has none."""
    need_place(many, shape, place)
    need(has_children(shape[place]), "place")
    return shape[:place] + "." + shape[part_end(many, shape, place):]


def grafted(many, shape, place, late):
    """The shape with another one in the place of this place's part."""
    need_place(many, shape, place)
    need(is_shape(many, late), "late")
    return shape[:place] + late + shape[part_end(many, shape, place):]


def relabelled(many, tree, place, label):
    """The tree in which the place has this label."""
    need_tree_place(many, tree, place)
    need(is_label(label), "label")
    sign = label.upper() if has_children(tree[place]) else label
    return tree[:place] + sign + tree[place + 1:]


def tree_grafted(many, tree, place, late):
    """The tree with another one in the place of this place's part."""
    need_tree_place(many, tree, place)
    need(is_tree(many, late), "late")
    return tree[:place] + late + tree[part_end(many, tree, place):]


def tree_pruned(many, tree, place):
    """The tree in which the place has no children."""
    need_tree_place(many, tree, place)
    return tree[:place] + tree[place].lower() + tree[part_end(many, tree, place):]
