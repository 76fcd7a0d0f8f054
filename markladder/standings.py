"""What standing the top of a tree has by a machine; nothing is checked here."""

from markladder.nesting import has_children


def top_standing(machine, tree):
    """The standing of the top of a tree of labels of the machine."""
    many, labels, count, leaves, steps, _ = machine
    waiting = []
    # From the last place on, so that the standings of a place's children wait, the first child's on top.
    for sign in reversed(list(tree)):
        spot = labels.index(sign.lower())
        if not has_children(sign):
            waiting.append(leaves[spot])
        elif many == 1:
            waiting.append(steps[spot][waiting.pop()])
        else:
            first = waiting.pop()
            waiting.append(steps[spot][first * count + waiting.pop()])
    return waiting[0]
