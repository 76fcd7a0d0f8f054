"""Which standings surroundings let."""

from markladder.checks import need
from markladder.kinds import ascends, is_index, is_machine, is_surrounding
from markladder.standings import whole_standing
from markladder.terms import step_of, trees_by_standing


def let_by(machine, surrounding):
    """The bundle of all standings that the surrounding lets."""
    need(is_machine(machine), "machine")
    need(is_surrounding(machine[0], surrounding), "surrounding")
    if not is_surrounding_of(machine, surrounding):
        return ()
    standings = sorted(trees_by_standing(machine))
    return tuple([standing for standing in standings if whole_standing(machine, surrounding, standing) in machine[5]])


def accept_bundles(machine):
    """The set of all bundles that surroundings with labels of the machine alone let."""
    need(is_machine(machine), "machine")
    return tuple(sorted(surroundings_by_bundle(machine)))


def surrounding_for(machine, yes, no):
    """A surrounding that lets each standing of yes and none of no, None if there is none."""
    need(is_machine(machine), "machine")
    need(is_bundle(machine, yes), "yes")
    need(is_bundle(machine, no), "no")
    surroundings = surroundings_by_bundle(machine)
    for bundle in surroundings:
        if all([standing in bundle for standing in yes]) and not any([standing in bundle for standing in no]):
            return surroundings[bundle]
    return None


def is_surrounding_of(machine, thing):
    """Whether any value is a surrounding with labels of the machine alone."""
    return is_surrounding(machine[0], thing) and all([sign == "_" or sign in machine[1] for sign in thing.lower()])


def is_bundle(machine, thing):
    """Whether any value is a set of standings that are met."""
    if not isinstance(thing, tuple) or not all([is_index(standing, machine[2]) for standing in thing]):
        return False
    standings = trees_by_standing(machine)
    return ascends(thing) and all([standing in standings for standing in thing])


def surroundings_by_bundle(machine):
    """For each bundle that some surrounding lets such a surrounding, those with fewer places around the hole first."""
    trees = trees_by_standing(machine)
    found = {}
    waiting = [(tuple([standing for standing in sorted(trees) if standing in machine[5]]), "_")]
    while len(waiting) > 0:
        bundle, surrounding = waiting.pop(0)
        if bundle not in found:
            found[bundle] = surrounding
            waiting.extend(around(machine, trees, bundle, surrounding))
    return found


def around(machine, trees, bundle, surrounding):
    """The list of the pairs of a bundle and a surrounding that one place more makes, right above the hole."""
    pairs = []
    for label in machine[1]:
        for left, right in beside(machine[0], list(trees)):
            lets = [standing for standing in sorted(trees)
                    if step_of(machine, label, (*left, standing, *right)) in bundle]
            inner = [*[trees[standing] for standing in left], "_", *[trees[standing] for standing in right]]
            pairs.append((tuple(lets), surrounding.replace("_", label.upper() + "".join(inner))))
    return pairs


def beside(many, standings):
    """The list of the pairs of the standings on the left and on the right of a child, by any of these standings."""
    if many == 1:
        return [((), ())]
    return [((), (standing,)) for standing in standings] + [((standing,), ()) for standing in standings]
