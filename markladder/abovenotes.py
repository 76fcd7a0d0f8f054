"""Notes that are laid from above: each place's by the labels above it and its own alone."""

from markladder.bundles import common
from markladder.checks import need
from markladder.choices import with_choice
from markladder.greatest import bundles_by_tag
from markladder.kinds import is_machine
from markladder.needs import outer_bundles
from markladder.running import has, met_at
from markladder.terms import step_of


def above_numbers(machine):
    """How many outer bundles each label has."""
    need_many_one(machine)
    return tuple([len(outer_bundles(machine, label)) for label in machine[1]])


def above_checker(machine):
    """The checker with the choice of the tags of all outer bundles."""
    need_many_one(machine)
    outer = {label: outer_bundles(machine, label) for label in machine[1]}
    bundles = bundles_by_tag(machine)
    return with_choice(machine, tuple([tag for tag in bundles if bundles[tag] in outer[tag[0]]]))


def above_notes(machine, tree):
    """The notes by which the tag of each place has what is let there by the surrounding that is above the place."""
    need_many_one(machine)
    need(has(machine, tree), "tree")
    met = {label: met_at(machine, label) for label in machine[1]}
    tags = {(tag[0], bundle): tag[1:] for tag, bundle in bundles_by_tag(machine).items()}
    let = machine[5]
    notes = []
    for label in tree.lower():
        notes.append(tags[label, common(met[label], let)])
        let = [standing for standing in range(machine[2]) if step_of(machine, label, (standing,)) in let]
    return "".join(notes)


def need_many_one(machine):
    """Refuses what is no machine for 1."""
    need(is_machine(machine) and machine[0] == 1, "machine")
