"""What trees a machine meets, and which of them have the property."""

from markladder.checks import need, need_label
from markladder.kinds import is_machine, is_tree
from markladder.objects import is_tree_of
from markladder.standings import top_standing
from markladder.terms import standings_at, tree_by_standing, trees_by_standing


def standing_of(machine, tree):
    """The standing of the top of a tree of labels of the machine."""
    need(is_machine(machine), "machine")
    need(is_tree_of(machine, tree), "tree")
    return top_standing(machine, tree)


def has(machine, tree):
    """Whether the tree, of any labels, has the property."""
    need(is_machine(machine), "machine")
    need(is_tree(machine[0], tree), "tree")
    return is_tree_of(machine, tree) and top_standing(machine, tree) in machine[5]


def met(machine):
    """The tuple of the pairs of a standing that is met and of the least tree of it."""
    need(is_machine(machine), "machine")
    trees = trees_by_standing(machine)
    return tuple([(standing, trees[standing]) for standing in sorted(trees)])


def met_at(machine, label):
    """The set of the standings that are met at the label."""
    need_label(machine, label)
    return standings_at(machine, label, list(trees_by_standing(machine)))


def least_with(machine):
    """The least tree that has the property, None if there is none."""
    need(is_machine(machine), "machine")
    return tree_by_standing(machine, lambda standing: standing in machine[5])


def least_without(machine):
    """The least tree of labels of the machine that does not have the property, None if there is none."""
    need(is_machine(machine), "machine")
    return tree_by_standing(machine, lambda standing: standing not in machine[5])
