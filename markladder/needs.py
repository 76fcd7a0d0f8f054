"""Outer and inner bundles of a label, and its needs."""

from markladder.bundles import common_of, lets_at
from markladder.checks import need_label
from markladder.terms import standings_at, trees_by_standing


def outer_bundles(machine, label):
    """The set of the outer bundles of the label."""
    need_label(machine, label)
    return tuple([bundle for bundle in sorted(lets_at(machine, label)) if bundle != ()])


def inner_bundles(machine, label):
    """The set of the inner bundles of the label."""
    need_label(machine, label)
    return tuple(sorted(set(list(inner_by_standing(machine, label).values()))))


def needs_at(machine, label):
    """The set of the needs of the label."""
    return tuple([(bundle, standing) for bundle in outer_bundles(machine, label) for standing in bundle])


def inner_by_standing(machine, label):
    """For each standing that is met at the label and let by some surrounding the least closed bundle there with it."""
    lets = lets_at(machine, label)
    inner = {}
    for standing in standings_at(machine, label, list(trees_by_standing(machine))):
        around = [bundle for bundle in lets if standing in bundle]
        if around != []:
            inner[standing] = common_of(around)
    return inner


def serves(bundle, told):
    """Whether a closed bundle serves a need that is told."""
    outer, standing = told
    return standing in bundle and all([one in outer for one in bundle])
