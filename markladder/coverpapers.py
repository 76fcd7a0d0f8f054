"""Papers on how many tags each label needs, and how many are enough."""

from markladder.coverchoices import need_cover_kind
from markladder.covers import least_cover
from markladder.crossings import crossing, most_crossing


def cover_paper(machine, kind):
    """A paper with a least cover of this kind and a greatest crossing for each label."""
    need_cover_kind(machine, kind)
    return (kind, tuple([(least_cover(machine, label, kind=kind), greatest_crossing(machine, label))
                         for label in machine[1]]))


def greatest_crossing(machine, label):
    """A crossing at the label of the most pairs."""
    return crossing(machine, label, most_crossing(machine, label))
