"""Choices whose bundles cover each label, and how many tags they tell to be needed and enough."""

from markladder.checks import need
from markladder.covers import lack_of, least_cover
from markladder.crossings import most_crossing
from markladder.greatest import bundles_by_tag, need_choice
from markladder.kinds import is_machine


def are_covered(machine, tags):
    """Whether at each label the bundles of the choice's tags cover it."""
    need_choice(machine, tags)
    bundles = bundles_by_tag(machine)
    told = {label: [bundles[tag] for tag in tags if tag[0] == label] for label in machine[1]}
    return all([lack_of(machine, label, told[label]) is None for label in machine[1]])


def cover_tags(machine, kind):
    """The choice of the tags of each label's least cover of this kind."""
    need_cover_kind(machine, kind)
    covers = {label: least_cover(machine, label, kind=kind) for label in machine[1]}
    bundles = bundles_by_tag(machine)
    return tuple([tag for tag in bundles if bundles[tag] in covers[tag[0]]])


def cover_numbers(machine):
    """For each label how many pairs a crossing can have, how many bundles a cover needs, and how many inner ones."""
    need(is_machine(machine), "machine")
    return tuple([(most_crossing(machine, label), *[cover_size(machine, label, kind) for kind in ("any", "inner")])
                  for label in machine[1]])


def is_clear(machine):
    """Whether covers by bundles of one kind that are laid alone are nowhere greater than those by any bundles."""
    need(is_machine(machine), "machine")
    kinds = ["inner"] if machine[0] == 2 else ["inner", "outer"]
    return any([is_least_kind(machine, kind) for kind in kinds])


def need_cover_kind(machine, kind):
    """Refuses what is no machine, and no kind of bundles that are laid from one side for it."""
    need(is_machine(machine), "machine")
    need(kind == "inner" or (kind == "outer" and machine[0] == 1), "kind")


def cover_size(machine, label, kind):
    """How many bundles the least cover of the label of this kind has."""
    return len(least_cover(machine, label, kind=kind))


def is_least_kind(machine, kind):
    """Whether at each label the least cover of this kind has as few bundles as any."""
    return all([cover_size(machine, label, kind) == cover_size(machine, label, "any") for label in machine[1]])
