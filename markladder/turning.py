"""Rows of labels read the other way round, with their notes, checkers and machines; all of it for 1."""

from markladder.checks import need
from markladder.joining import least_machine
from markladder.kinds import is_checker, is_machine, is_notes, is_tree, row_tags
from markladder.terms import leaf_of, machine_of, states_reached, step_of


def turned_tree(tree):
    """The tree with its labels in the other order."""
    need(is_tree(1, tree), "tree")
    labels = tree.lower()[::-1]
    return labels[:-1].upper() + labels[-1]


def turned_notes(tree, notes):
    """The notes for the tree in the other order."""
    need(is_tree(1, tree), "tree")
    need(is_notes(notes) and len(notes) == len(tree), "notes")
    return notes[::-1]


def turned_checker(checker):
    """The checker with tops and leaves exchanged, and the tags in each row."""
    need(is_checker(checker) and checker[0] == 1, "checker")
    many, tops, leaves, rows = checker
    return (many, leaves, tops, tuple(sorted(["".join(row_tags(row)[::-1]) for row in rows])))


def turned_machine(machine):
    """The least machine by which a tree has the property exactly if the turned tree has it by this one."""
    need(is_machine(machine) and machine[0] == 1, "machine")
    start = (machine[5], False)
    states = states_reached(1, machine[1], lambda label: turned_step(machine, label, start),
                            lambda label, children: turned_step(machine, label, children[0]))
    return least_machine(machine_of(1, machine[1], states, lambda label: turned_step(machine, label, start),
                                    lambda label, children: turned_step(machine, label, children[0]),
                                    lambda state: state[1]))


def turned_step(machine, label, state):
    """The state above a state with this label.

    A state has what the labels read so far, being above a place, let there, and whether they are a tree with the
    property themselves.
    """
    let, _ = state
    lets = [standing for standing in range(machine[2]) if step_of(machine, label, (standing,)) in let]
    return (tuple(lets), leaf_of(machine, label) in let)
