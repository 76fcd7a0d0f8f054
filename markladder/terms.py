"""Trees put together state by state, the least one for each state first; nothing is checked here."""

from heapq import heappop, heappush

from markladder.standings import step_to


def least_trees(many, labels, leaf, step, is_last):
    """The least tree for each state that a tree of these labels has, as a dict that ascends by the trees.

    leaf tells the state of a label without children, step that of a label with children of the states of a tuple; None
    is no state, and none of the trees that are asked for has a part of it. is_last tells whether a state is the last
    one that is wanted.
    """
    trees = {}
    offers = []
    offered = {}
    for label in labels:
        offer(offers, offered, leaf(label), label)
    while len(offers) > 0:
        _, tree, state = heappop(offers)
        if state not in trees:
            trees[state] = tree
            if is_last(state):
                return trees
            for children in tuples_with(list(trees), state, many):
                below = "".join([trees[child] for child in children])
                for label in labels:
                    offer(offers, offered, step(label, children), label.upper() + below)
    return trees


def least_tree(many, labels, leaf, step, is_wanted):
    """The least tree of these labels whose state is a wanted one, None if there is none; leaf and step as above."""
    trees = least_trees(many, labels, leaf, step, is_wanted)
    found = [tree for state, tree in trees.items() if is_wanted(state)]
    return found[0] if len(found) > 0 else None


def offer(offers, offered, state, tree):
    """Puts a tree for a state among the offers, if no lesser one was offered."""
    if state is not None and (state not in offered or (len(tree), tree) < offered[state]):
        offered[state] = (len(tree), tree)
        heappush(offers, (len(tree), tree, state))


def tuples_with(states, needed, many):
    """The list of the tuples of many of these states, 1 or 2, in which the needed one stands."""
    if many == 1:
        return [(needed,)]
    others = [state for state in states if state != needed]
    return [(needed, needed), *[(needed, other) for other in others], *[(other, needed) for other in others]]


def leaf_of(machine, label):
    """The standing of a place with this label and without children."""
    return machine[3][machine[1].index(label)]


def step_of(machine, label, children):
    """The standing of a place with this label and with children of these standings."""
    return step_to(machine, machine[1].index(label), children)


def trees_by_standing(machine):
    """The least tree of each standing that is met, as a dict that ascends by the trees."""
    return least_trees(machine[0], machine[1], lambda label: leaf_of(machine, label),
                       lambda label, children: step_of(machine, label, children),
                       lambda standing: False)


def tree_by_standing(machine, is_wanted):
    """The least tree whose standing is a wanted one, None if there is none."""
    return least_tree(machine[0], machine[1], lambda label: leaf_of(machine, label),
                      lambda label, children: step_of(machine, label, children),
                      is_wanted)


def standings_at(machine, label, standings):
    """The set of the standings that trees with this label at their top have, those of these standings below it."""
    found = [leaf_of(machine, label)]
    for standing in standings:
        found.extend([step_of(machine, label, children) for children in tuples_with(standings, standing, machine[0])])
    return tuple(sorted(set(found)))


def trees_at(machine, label):
    """For each standing that is met at the label a tree of it with this label at its top."""
    trees = trees_by_standing(machine)
    found = {leaf_of(machine, label): label}
    for standing in trees:
        for children in tuples_with(list(trees), standing, machine[0]):
            tree = label.upper() + "".join([trees[child] for child in children])
            found.setdefault(step_of(machine, label, children), tree)
    return found


def choices_of(lists):
    """The list of all tuples of one element of each of these lists."""
    choices = [()]
    for some in lists:
        choices = [(*choice, one) for choice in choices for one in some]
    return choices


def steps_over(machine, label, standings):
    """The set of the standings of a place with this label, each child having some of the standings told for it."""
    return tuple(sorted(set([step_of(machine, label, children) for children in choices_of(standings)])))


def states_reached(many, labels, leaf, step):
    """The list of all states that trees of these labels have."""
    states = {}
    waiting = [leaf(label) for label in labels]
    while len(waiting) > 0:
        state = waiting.pop()
        if state not in states:
            states[state] = True
            below = tuples_with(list(states), state, many)
            waiting.extend([step(label, children) for children in below for label in labels])
    return list(states)


def machine_of(many, labels, states, leaf, step, is_good):
    """The machine whose standings are these states, numbered in this order."""
    numbers = {state: index for index, state in enumerate(states)}
    below = [(state,) for state in states]
    if many == 2:
        below = [(state, other) for state in states for other in states]
    leaves = [numbers[leaf(label)] for label in labels]
    steps = [tuple([numbers[step(label, children)] for children in below]) for label in labels]
    good = [index for index, state in enumerate(states) if is_good(state)]
    return (many, labels, len(states), tuple(leaves), tuple(steps), tuple(good))
