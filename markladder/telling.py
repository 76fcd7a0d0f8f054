"""Checkers beside machines: which trees have right notes, and which have the property."""

from markladder.checks import lot_of, need
from markladder.kinds import is_checker, is_lot, is_machine, row_tags, tags_in
from markladder.terms import leaf_of, least_tree, machine_of, states_reached, step_of


def checker_machine(checker, labels):
    """A machine with these labels by which just the trees of them have the property that have right notes."""
    need(is_checker(checker), "checker")
    need(is_lot(labels) and labels != "", "labels")
    above = tags_by_below(checker)
    sets = states_reached(checker[0], labels, lambda label: leaf_tags(checker, label),
                          lambda label, children: tags_above(above, label, children))
    return machine_of(checker[0], labels, sets, lambda label: leaf_tags(checker, label),
                      lambda label, children: tags_above(above, label, children),
                      lambda tags: has_top(checker, tags))


def tells(checker, machine):
    """Whether the checker tells the machine."""
    return tell_fault(checker, machine) is None


def tell_fault(checker, machine):
    """The least tree with just one of both, the property and right notes; None if there is none."""
    need(is_checker(checker), "checker")
    need(is_machine(machine) and machine[0] == checker[0], "machine")
    labels = lot_of([machine[1], *[tag[0] for tag in tags_in(checker)]])
    above = tags_by_below(checker)
    return least_tree(checker[0], labels, lambda label: leaf_state(checker, machine, label),
                      lambda label, children: step_state(above, machine, label, children),
                      lambda state: is_fault(checker, machine, state))


def leaf_tags(checker, label):
    """The tags with which a place with this label and without children is let, as one string."""
    return "".join([tag for tag in checker[2] if tag[0] == label])


def tags_by_below(checker):
    """For each string of a label and of the tags below it the list of the tags with this label that are let so."""
    above = {}
    for row in checker[3]:
        above.setdefault(row[0] + row[2:], []).append(row[:2])
    return above


def tags_above(above, label, children):
    """The tags with which a place with this label is let over children with tags of these strings, as one string."""
    below = [label]
    for tags in children:
        below = [row + tag for row in below for tag in row_tags(tags)]
    found = [tag for row in below for tag in above.get(row, [])]
    return "".join(sorted(set(found)))


def has_top(checker, tags):
    """Whether one of these tags may be at the top."""
    return any([tag in checker[1] for tag in row_tags(tags)])


def leaf_state(checker, machine, label):
    """The tags and the standing of a place with this label and without children; None if it has neither."""
    standing = leaf_of(machine, label) if label in machine[1] else None
    return state_with(leaf_tags(checker, label), standing)


def step_state(above, machine, label, children):
    """The tags and the standing of a place with this label over children with these; None if it has neither."""
    standings = [standing for _, standing in children]
    standing = None
    if label in machine[1] and None not in standings:
        standing = step_of(machine, label, standings)
    return state_with(tags_above(above, label, [tags for tags, _ in children]), standing)


def state_with(tags, standing):
    """The pair of the tags and the standing; None if there are neither: no tree around has the property or notes."""
    return None if tags == "" and standing is None else (tags, standing)


def is_fault(checker, machine, state):
    """Whether a tree of this state has just one of both, the property and right notes."""
    tags, standing = state
    return has_top(checker, tags) != (standing in machine[5])
