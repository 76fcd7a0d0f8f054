"""Closed bundles: what the standings that are met at a label have in common with what surroundings let."""

from markladder.checks import need, need_label
from markladder.surroundings import is_bundle, surroundings_by_bundle
from markladder.terms import standings_at, trees_by_standing


def closed_bundles(machine, label):
    """The set of the closed bundles at the label."""
    need_label(machine, label)
    found = {}
    for bundle in lets_at(machine, label):
        inner = [common(bundle, other) for other in list(found)]
        found.update({closed: True for closed in [bundle, *inner]})
    return tuple([bundle for bundle in sorted(found) if bundle != ()])


def closing(machine, label, bundle):
    """The least closed bundle at the label that has all of this one, None if there is none."""
    need_label(machine, label)
    need_met_at(machine, label, bundle)
    lets = [told for told in lets_at(machine, label) if lies_in(bundle, told)]
    return None if lets == [] else common_of(lets)


def shown_by(machine, label, bundle):
    """A tuple of surroundings that let all of this closed bundle at the label, and together no more there."""
    need_label(machine, label)
    need(is_closed(machine, label, bundle), "bundle")
    lets = lets_at(machine, label)
    return tuple([lets[told] for told in lets if lies_in(bundle, told)])


def lets_at(machine, label):
    """For each bundle of the standings met at the label that some surrounding lets of these such a surrounding."""
    met = standings_at(machine, label, list(trees_by_standing(machine)))
    surroundings = surroundings_by_bundle(machine)
    lets = {}
    for bundle in surroundings:
        lets.setdefault(common(met, bundle), surroundings[bundle])
    return lets


def need_met_at(machine, label, bundle):
    """Refuses what is no nonempty bundle that is all met at the label."""
    met = standings_at(machine, label, list(trees_by_standing(machine)))
    need(is_bundle(machine, bundle) and bundle != () and lies_in(bundle, met), "bundle")


def is_closed(machine, label, thing):
    """Whether any value is a closed bundle at the label."""
    if not is_bundle(machine, thing) or thing == ():
        return False
    lets = [told for told in lets_at(machine, label) if lies_in(thing, told)]
    return lets != [] and common_of(lets) == thing


def common(bundle, other):
    """What two bundles have in common."""
    return tuple([standing for standing in bundle if standing in other])


def common_of(bundles):
    """What all of these bundles have in common."""
    return tuple([standing for standing in bundles[0] if all([standing in bundle for bundle in bundles])])


def lies_in(bundle, other):
    """Whether all of the bundle is in another one."""
    return all([standing in other for standing in bundle])
