"""What refuses parameters that are not as stated, and papers that are not right."""

from markladder.errors import InvalidPaper, NotUsable
from markladder.kinds import is_index, is_lot, is_machine, is_mark, is_one_of, is_shape, is_table, is_tree


def need(holds, name):
    """Refuses the parameter with this name if it is not as stated."""
    if not holds:
        raise NotUsable(name, -1)


def judge(holds, word, at):
    """Says what is wrong with a paper, and where, if this does not hold."""
    if not holds:
        raise InvalidPaper(word, at)


def lot_of(signs):
    """These signs, or strings, as one string, ascending, each sign once."""
    return "".join(sorted(set("".join(signs))))


def is_lot_of(thing, marks):
    """Whether any value is a lot of some of these marks."""
    return is_lot(thing) and all([mark in marks for mark in thing])


def is_mark_of(thing, marks):
    """Whether any value is one of these marks."""
    return is_mark(thing) and thing in marks


def need_shape(many, shape):
    """Refuses what is no shape for many."""
    need(is_one_of(many, (2, 3)), "many")
    need(is_shape(many, shape), "shape")


def need_place(many, shape, place):
    """Refuses what is no place of a shape for many."""
    need_shape(many, shape)
    need(is_index(place, len(shape)), "place")


def need_tree(many, tree):
    """Refuses what is no tree for many."""
    need(is_one_of(many, (1, 2)), "many")
    need(is_tree(many, tree), "tree")


def need_tree_place(many, tree, place):
    """Refuses what is no place of a tree for many."""
    need_tree(many, tree)
    need(is_index(place, len(tree)), "place")


def need_other(table, other):
    """Refuses what are no two tables with the same many."""
    need(is_table(table), "table")
    need(is_table(other) and other[0] == table[0], "other")


def need_table_shape(table, shape):
    """Refuses what is no shape for the many of a table."""
    need(is_table(table), "table")
    need(is_shape(table[0], shape), "shape")


def need_label(machine, label):
    """Refuses what is no label of a machine."""
    need(is_machine(machine), "machine")
    need(is_mark_of(label, machine[1]), "label")


def need_lot(table, lot):
    """Refuses what is no lot of marks of a table."""
    need(is_table(table), "table")
    need(is_lot_of(lot, lot_of(table[1])), "lot")
