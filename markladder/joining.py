"""Machines together: both properties, either one, what parts them, and the least machine."""

from markladder.checks import need
from markladder.kinds import is_machine
from markladder.terms import leaf_of, least_tree, machine_of, states_reached, step_of, trees_by_standing


def both(one, other):
    """A machine by which the trees have the property that have it by one and by other."""
    need_two_machines(one, other)
    return joined(one, other, lambda pair: pair[0] in one[5] and pair[1] in other[5])


def either(one, other):
    """A machine by which the trees have the property that have it by one or other or both."""
    need_two_machines(one, other)
    return joined(one, other, lambda pair: pair[0] in one[5] or pair[1] in other[5])


def parting(one, other):
    """The least tree that has just one of the two properties, None if there is none."""
    need_two_machines(one, other)
    return least_tree(one[0], one[1], lambda label: leaf_pair(one, other, label),
                      lambda label, children: step_pair(one, other, label, children),
                      lambda pair: is_parted(one, other, pair))


def least_machine(machine):
    """The machine with the fewest standings for the property, numbered in the order of the least trees."""
    need(is_machine(machine), "machine")
    standings = list(trees_by_standing(machine))
    classes = classes_of(machine, standings)
    firsts = {}
    for standing in standings:
        firsts.setdefault(classes[standing], standing)
    return machine_of(machine[0], machine[1], list(firsts.values()),
                      lambda label: firsts[classes[leaf_of(machine, label)]],
                      lambda label, children: firsts[classes[step_of(machine, label, children)]],
                      lambda standing: standing in machine[5])


def need_two_machines(one, other):
    """Refuses what are no two machines with the same labels and many."""
    need(is_machine(one), "one")
    need(is_machine(other) and other[:2] == one[:2], "other")


def leaf_pair(one, other, label):
    """The pair of the standings of a place with this label and without children."""
    return (leaf_of(one, label), leaf_of(other, label))


def step_pair(one, other, label, children):
    """The pair of the standings of a place with this label and with children of these pairs."""
    return (step_of(one, label, [child[0] for child in children]),
            step_of(other, label, [child[1] for child in children]))


def is_parted(one, other, pair):
    """Whether just one standing of a pair is good."""
    return (pair[0] in one[5]) != (pair[1] in other[5])


def joined(one, other, is_good):
    """The machine whose standings are the pairs of standings that trees have by both."""
    pairs = states_reached(one[0], one[1], lambda label: leaf_pair(one, other, label),
                           lambda label, children: step_pair(one, other, label, children))
    return machine_of(one[0], one[1], pairs, lambda label: leaf_pair(one, other, label),
                      lambda label, children: step_pair(one, other, label, children), is_good)


def classes_of(machine, standings):
    """For each of these standings the number of its class; those of one class are good or not by the same surroundings.

    The classes are numbered in the order in which the standings come.
    """
    finer = {standing: 0 for standing in standings}
    classes = {}
    signatures = {standing: (standing in machine[5],) for standing in standings}
    while finer != classes:
        classes = finer
        finer = numbered(standings, signatures)
        signatures = {standing: (finer[standing], *[finer[end] for end in ends_over(machine, standings, standing)])
                      for standing in standings}
    return classes


def numbered(standings, signatures):
    """For each standing the number of its signature, numbered in the order in which these come."""
    numbers = {}
    for standing in standings:
        numbers.setdefault(signatures[standing], len(numbers))
    return {standing: numbers[signatures[standing]] for standing in standings}


def ends_over(machine, standings, standing):
    """The list of the standings right above this one, label by label, beside each of these standings on each side."""
    beside = [(standing,)]
    if machine[0] == 2:
        beside = [(standing, other) for other in standings] + [(other, standing) for other in standings]
    return [step_of(machine, label, children) for label in machine[1] for children in beside]
