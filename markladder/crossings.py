"""Crossings: surroundings and trees that show how many tags a label needs."""

from markladder.bundles import lets_at
from markladder.checks import need, need_label
from markladder.kinds import is_number, is_tuple_of
from markladder.needs import inner_by_standing, outer_bundles
from markladder.objects import is_tree_of
from markladder.standings import top_standing, whole_standing
from markladder.surroundings import is_surrounding_of
from markladder.terms import trees_at


def is_crossing(machine, label, thing):
    """Whether any value is a crossing at the label."""
    need_label(machine, label)
    if not isinstance(thing, tuple) or not all([is_crossing_pair(machine, label, pair) for pair in thing]):
        return False
    standings = [top_standing(machine, tree) for _, tree in thing]
    known = sorted(set(standings))
    needs = [(lets_of(machine, pair[0], known), standing) for pair, standing in zip(thing, standings)]
    unlike = sorted(set(needs))
    # Of two equal ones both have the property when they exchange trees.
    return len(unlike) == len(needs) and are_apart(unlike)


def crossing(machine, label, size):
    """A crossing at the label of so many pairs, None if there is none."""
    need_label(machine, label)
    need(is_number(size), "size")
    found = some_apart(unlike_needs(machine, label), size)
    if found is None:
        return None
    surroundings = lets_at(machine, label)
    trees = trees_at(machine, label)
    return tuple([(surroundings[bundle], trees[standing]) for bundle, standing in found])


def most_crossing(machine, label):
    """How many pairs a crossing at the label has at the most."""
    need_label(machine, label)
    needs = unlike_needs(machine, label)
    size = 0
    while some_apart(needs, size + 1) is not None:
        size = size + 1
    return size


def is_crossing_pair(machine, label, thing):
    """Whether any value is a surrounding and a tree with this label at its top, which have the property together."""
    if not is_tuple_of(thing, 2):
        return False
    surrounding, tree = thing
    if not is_surrounding_of(machine, surrounding) or not is_tree_of(machine, tree) or tree[0].lower() != label:
        return False
    return whole_standing(machine, surrounding, top_standing(machine, tree)) in machine[5]


def lets_of(machine, surrounding, standings):
    """The set of those of these standings that the surrounding lets."""
    return tuple([one for one in standings if whole_standing(machine, surrounding, one) in machine[5]])


def unlike_needs(machine, label):
    """The list of the needs of the label, of standings that are in the same closed bundles those of one alone."""
    firsts = {}
    for standing, bundle in inner_by_standing(machine, label).items():
        firsts.setdefault(bundle, standing)
    outer = outer_bundles(machine, label)
    return [(bundle, standing) for bundle in outer for standing in firsts.values() if standing in bundle]


def is_apart(one, other):
    """Whether of two needs not each one's standing is in the other one's bundle."""
    return one[1] not in other[0] or other[1] not in one[0]


def are_apart(needs):
    """Whether each two of these needs are apart."""
    return all([is_apart(one, other) for index, one in enumerate(needs) for other in needs[index + 1:]])


def some_apart(needs, size):
    """So many of these needs of which each two are apart, as a tuple; None if there are none."""
    if size == 0:
        return ()
    for index, one in enumerate(needs):
        # No two that are apart have the same standing.
        rest = [other for other in needs[index + 1:] if is_apart(one, other)]
        found = some_apart(rest, size - 1) if len(set([standing for _, standing in rest])) >= size - 1 else None
        if found is not None:
            return (one, *found)
    return None
