"""Cut parts: what a place sees below it down to a depth."""

from markladder.checks import need, need_tree_place
from markladder.kinds import is_machine, is_number
from markladder.nesting import children_in
from markladder.surroundings import around, surroundings_by_bundle
from markladder.terms import choices_of, leaf_of, step_of, trees_at, trees_by_standing


def cut_part(many, tree, place, depth):
    """The cut part of the place at the depth."""
    need_tree_place(many, tree, place)
    need(is_number(depth), "depth")
    return cut_below(tree, children_in(many, tree), place, depth)


def top_cuts(machine, depth):
    """The set of the cut parts of the tops of the trees with the property."""
    need_depth(machine, depth)
    return cuts_with(cut_trees(machine, depth), machine[5])


def inner_cuts(machine, depth):
    """The set of the cut parts of the other places of the trees with the property."""
    need_depth(machine, depth)
    return cuts_with(cut_trees(machine, depth), list(inner_surroundings(machine)))


def need_depth(machine, depth):
    """Refuses what is no machine, and no depth."""
    need(is_machine(machine), "machine")
    need(is_number(depth), "depth")


def cut_below(tree, children, place, depth):
    """The cut part of the place, children telling the children of all places."""
    signs = []
    waiting = [(place, depth)]
    while len(waiting) > 0:
        spot, left = waiting.pop()
        signs.append(tree[spot] if left > 0 else tree[spot].lower())
        if left > 0:
            waiting.extend([(child, left - 1) for child in children[spot][::-1]])
    return "".join(signs)


def cut_trees(machine, depth):
    """For each pair of a cut part at the depth and a standing that some tree's top has such a tree."""
    trees = {}
    for label in machine[1]:
        found = trees_at(machine, label)
        trees.update({(label, standing): found[standing] for standing in found})
    for _ in range(depth):
        trees = deeper_trees(machine, trees)
    return trees


def deeper_trees(machine, trees):
    """What cut_trees tells of the depth that is greater by one."""
    found = {(label, leaf_of(machine, label)): label for label in machine[1]}
    for below in choices_of([list(trees) for _ in range(machine[0])]):
        for label in machine[1]:
            cut = label.upper() + "".join([inner for inner, _ in below])
            standing = step_of(machine, label, [told for _, told in below])
            found.setdefault((cut, standing), label.upper() + "".join([trees[pair] for pair in below]))
    return found


def cuts_with(pairs, standings):
    """The set of the cut parts of the pairs with one of these standings."""
    return tuple(sorted(set([cut for cut, standing in pairs if standing in standings])))


def inner_surroundings(machine):
    """For each standing that other places than the top have in trees with the property a surrounding of such a one."""
    trees = trees_by_standing(machine)
    surroundings = surroundings_by_bundle(machine)
    found = {}
    for bundle in surroundings:
        for lets, wider in around(machine, trees, bundle, surroundings[bundle]):
            for standing in lets:
                found.setdefault(standing, wider)
    return found
