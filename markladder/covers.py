"""Covers: closed bundles that serve all needs of a label."""

from markladder.bundles import closed_bundles
from markladder.checks import need, need_label
from markladder.kinds import ascends, is_standing_set
from markladder.needs import inner_bundles, needs_at, outer_bundles, serves


def is_cover(machine, label, thing):
    """Whether any value is a set of closed bundles of the label that covers it."""
    return is_bundle_set(machine, closed_bundles(machine, label), thing) and lack_of(machine, label, thing) is None


def first_lack(machine, label, bundles):
    """The first need of the label that these closed bundles do not serve, None if they serve all."""
    need(is_bundle_set(machine, closed_bundles(machine, label), bundles), "bundles")
    return lack_of(machine, label, bundles)


def least_cover(machine, label, *, kind="any"):
    """The first of the sets that cover the label with the fewest bundles of this kind."""
    need_label(machine, label)
    need(kind in ("any", "inner", "outer"), "kind")
    bundles = bundles_of_kind(machine, label, kind)
    needs = needs_at(machine, label)
    size = 0
    while first_cover(bundles, needs, size) is None:
        size = size + 1
    return first_cover(bundles, needs, size)


def bundles_of_kind(machine, label, kind):
    """The set of the closed, inner or outer bundles of the label."""
    if kind == "any":
        return closed_bundles(machine, label)
    return inner_bundles(machine, label) if kind == "inner" else outer_bundles(machine, label)


def is_bundle_set(machine, bundles, thing):
    """Whether any value is a set of some of these bundles."""
    if not isinstance(thing, tuple) or not all([is_standing_set(bundle, machine[2]) for bundle in thing]):
        return False
    return all([bundle in bundles for bundle in thing]) and ascends(thing)


def lack_of(machine, label, bundles):
    """The first need of the label that none of these bundles serves, None without any."""
    for told in needs_at(machine, label):
        if not any([serves(bundle, told) for bundle in bundles]):
            return told
    return None


def first_cover(bundles, needs, size):
    """The first set of at most so many of these bundles that serves all these needs, None if there is none."""
    if len(needs) == 0:
        return ()
    if size == 0:
        return None
    for index, bundle in enumerate(bundles):
        left = [told for told in needs if not serves(bundle, told)]
        found = first_cover(bundles[index + 1:], left, size - 1)
        if found is not None:
            return (bundle, *found)
    return None
