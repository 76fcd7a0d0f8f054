"""How few tags are enough: at each label, in all, and label by label."""

from markladder.choices import least_choices


def fewest_notes(machine):
    """The least number such that a choice with at most so many tags with each label is enough."""
    return min([max(numbers) for numbers in numbers_enough(machine)])


def fewest_in_all(machine):
    """The least number of tags of a choice that is enough, and the first such choice."""
    return min([(len(tags), tags) for tags in least_choices(machine)])


def numbers_enough(machine):
    """The set of the least numbers of tags, one for each label, within which a choice is enough."""
    found = sorted(set([numbers_of(machine, tags) for tags in least_choices(machine)]))
    return tuple([numbers for numbers in found if not any([is_within(less, numbers) for less in found])])


def numbers_of(machine, tags):
    """How many of these tags each label has, as a tuple."""
    return tuple([len([tag for tag in tags if tag[0] == label]) for label in machine[1]])


def is_within(numbers, others):
    """Whether the numbers are nowhere greater than others, and not the same."""
    return numbers != others and all([number <= other for number, other in zip(numbers, others)])
