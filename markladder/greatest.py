"""The greatest checker of a machine, whose notes stand for the closed bundles."""

from markladder.bundles import closed_bundles, lies_in
from markladder.checks import need
from markladder.kinds import is_machine, is_tag, is_tag_set
from markladder.terms import choices_of, leaf_of, steps_over


def greatest(machine):
    """The greatest checker of the machine."""
    need(is_machine(machine), "machine")
    bundles = bundles_by_tag(machine)
    tops = [tag for tag in bundles if lies_in(bundles[tag], machine[5])]
    leaves = [tag for tag in bundles if leaf_of(machine, tag[0]) in bundles[tag]]
    return (machine[0], tuple(tops), tuple(leaves), tuple(sorted(rows_by(machine, bundles))))


def tags_of(machine):
    """The set of the tags of the greatest checker."""
    need(is_machine(machine), "machine")
    return tuple(list(bundles_by_tag(machine)))


def bundle_of(machine, tag):
    """The closed bundle of a tag of the greatest checker."""
    need(is_machine(machine), "machine")
    bundles = bundles_by_tag(machine)
    need(is_tag(tag) and tag in bundles, "tag")
    return bundles[tag]


def bundles_by_tag(machine):
    """For each tag of the greatest checker, ascending, its closed bundle."""
    bundles = {}
    for label in machine[1]:
        for note, bundle in enumerate(closed_bundles(machine, label)):
            bundles[f"{label}{note}"] = bundle
    return bundles


def rows_by(machine, bundles):
    """The list of the rows of the greatest checker, bundles telling the bundle of each tag."""
    rows = []
    for below in choices_of([list(bundles) for _ in range(machine[0])]):
        for label in machine[1]:
            ends = steps_over(machine, label, [bundles[tag] for tag in below])
            tops = [tag for tag in bundles if tag[0] == label and lies_in(ends, bundles[tag])]
            rows.extend(["".join([top, *below]) for top in tops])
    return rows


def need_choice(machine, tags):
    """Refuses what is no machine, and no choice of its greatest checker."""
    need(is_machine(machine), "machine")
    need(is_tag_set(tags) and lies_in(tags, tags_of(machine)), "tags")
