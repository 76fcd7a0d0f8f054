"""What standing the top of a tree has by a machine; nothing is checked here."""

from markladder.nesting import has_children


def step_to(machine, spot, children):
    """The standing of a place with this index of its label and with children of these standings."""
    many, _, count, _, steps, _ = machine
    return steps[spot][children[0] if many == 1 else children[0] * count + children[1]]


def top_standing(machine, tree):
    """The standing of the top of a tree of labels of the machine."""
    return whole_standing(machine, tree, None)


def whole_standing(machine, text, hole):
    """The standing of the top of a tree, or of what a tree of the standing of the hole makes of a surrounding."""
    return standings_by(machine, text, hole)[0]


def standings_in(machine, tree):
    """The list of the standings of all places of a tree of labels of the machine."""
    return standings_by(machine, tree, None)


def standings_by(machine, text, hole):
    """The list of the standings of all places of a tree or a surrounding, the hole having the one told for it."""
    many, labels, _, leaves, _, _ = machine
    waiting = []
    found = []
    # From the last place on, so that the standings of a place's children wait, the first child's on top.
    for sign in reversed(list(text)):
        if sign == "_":
            waiting.append(hole)
        elif has_children(sign):
            children = [waiting.pop() for _ in range(many)]
            waiting.append(step_to(machine, labels.index(sign.lower()), children))
        else:
            waiting.append(leaves[labels.index(sign)])
        found.append(waiting[-1])
    return found[::-1]
