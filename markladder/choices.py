"""Choices of tags of the greatest checker: what is left of it by them, and which are enough."""

from markladder.bundles import lies_in
from markladder.greatest import greatest, need_choice
from markladder.kinds import row_tags, tags_in
from markladder.telling import tells


def with_choice(machine, tags):
    """The checker with the choice."""
    need_choice(machine, tags)
    return chosen(greatest(machine), tags)


def is_enough(machine, tags):
    """Whether the choice is enough: whether the checker with it tells the machine."""
    return tells(with_choice(machine, tags), machine)


def least_choices(machine):
    """The set of the choices that are enough, and no longer are if any tag goes."""
    checker = greatest(machine)
    found = []
    # With more tags a choice stays enough, so that the choices above one that was found need no look.
    for tags in choices_by_size(tags_in(checker)):
        if not any([lies_in(less, tags) for less in found]) and tells(chosen(checker, tags), machine):
            found.append(tags)
    return tuple(sorted(found))


def chosen(checker, tags):
    """The checker with tops, leaves and rows with these tags alone."""
    many, tops, leaves, rows = checker
    return (many, tuple([tag for tag in tops if tag in tags]), tuple([tag for tag in leaves if tag in tags]),
            tuple([row for row in rows if lies_in(row_tags(row), tags)]))


def choices_by_size(tags):
    """The list of all sets of some of these tags, those with fewer tags first."""
    choices = [()]
    for tag in tags:
        choices = choices + [(*choice, tag) for choice in choices]
    return sorted(choices, key=len)
