"""Notes that are laid from below: each place's by its part alone."""

from markladder.bundles import common, lies_in
from markladder.checks import need
from markladder.choices import with_choice
from markladder.greatest import bundles_by_tag
from markladder.kinds import is_checker, is_machine, tags_in
from markladder.needs import inner_bundles, inner_by_standing
from markladder.running import has
from markladder.standings import standings_in
from markladder.telling import tags_by_below
from markladder.terms import choices_of, leaf_of, step_of


def below_numbers(machine):
    """How many inner bundles each label has."""
    need(is_machine(machine), "machine")
    return tuple([len(inner_bundles(machine, label)) for label in machine[1]])


def below_checker(machine):
    """The checker with the choice of the tags of all inner bundles."""
    need(is_machine(machine), "machine")
    inner = {label: inner_bundles(machine, label) for label in machine[1]}
    bundles = bundles_by_tag(machine)
    return with_choice(machine, tuple([tag for tag in bundles if bundles[tag] in inner[tag[0]]]))


def below_notes(machine, tree):
    """The notes by which the tag of each place has the least closed bundle with its standing."""
    need(has(machine, tree), "tree")
    inner = {label: inner_by_standing(machine, label) for label in machine[1]}
    notes = {(tag[0], bundle): tag[1:] for tag, bundle in bundles_by_tag(machine).items()}
    standings = standings_in(machine, tree)
    return "".join([notes[label, inner[label][standing]] for label, standing in zip(tree.lower(), standings)])


def is_from_below(checker, machine):
    """Whether notes told by the part of each place alone can be right by the checker on all trees with the property.

    What is told for parts with the same tag and standing at their tops can be the same. So it can be told exactly if
    for some pairs of a tag and a standing each place over children with such pairs is let with one of them again.
    """
    need(is_checker(checker), "checker")
    need(is_machine(machine) and machine[0] == checker[0], "machine")
    asked = answers_asked(checker, machine)
    seen = {}
    waiting = [()]
    while len(waiting) > 0:
        pairs = waiting.pop()
        if pairs not in seen:
            seen[pairs] = True
            lacking = [answers for below, answers in asked if lies_in(below, pairs) and common(pairs, answers) == ()]
            if lacking == []:
                return True
            waiting.extend([tuple(sorted([*pairs, answer])) for answer in lacking[0]])
    return False


def answers_asked(checker, machine):
    """What is asked of the pairs: a list of some pairs of children, and of the pairs of which one is to stand above.

    No children are for a label without children. Nothing is asked where no surrounding lets the standing above.
    """
    live = {label: list(inner_by_standing(machine, label)) for label in machine[1]}
    pairs = pairs_possible(checker, machine, live)
    above = tags_by_below(checker)
    asked = []
    for label in machine[1]:
        told = [((), leaf_of(machine, label), checker[2])]
        for below in choices_of([pairs for _ in range(machine[0])]):
            tags = above.get(label + "".join([tag for tag, _ in below]), [])
            told.append((below, step_of(machine, label, [standing for _, standing in below]), tags))
        asked.extend([(below, [(tag, standing) for tag in tags if tag[0] == label and (tag, standing) in pairs])
                      for below, standing, tags in told if standing in live[label]])
    return asked


def pairs_possible(checker, machine, live):
    """The list of the pairs of a tag and a standing of live, told for its label, that a place's part can have."""
    pairs = [(tag, standing) for tag in tags_in(checker) for standing in live.get(tag[0], [])]
    # A part with a good standing has the property by itself.
    return [(tag, standing) for tag, standing in pairs if standing not in machine[5] or tag in checker[1]]
