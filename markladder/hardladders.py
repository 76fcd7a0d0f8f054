"""Tables with a root that is asked for."""

from markladder.checks import need
from markladder.kinds import LETTERS, is_one_of


def ladder(many, k):
    """The table of k pairs of a step and a turn, whose root is k."""
    need(is_one_of(many, (2, 3)), "many")
    need(is_one_of(k, (1, 2, 3, 4)), "k")
    rows = []
    for index in range(k):
        step, turn = LETTERS[2 * index], LETTERS[2 * index + 1]
        rows.extend([step + turn * many, turn + step * many])
        if index > 0:
            later = LETTERS[2 * index + 2] if index < k - 1 else step
            rows.append(step + LETTERS[2 * index - 2] + later * (many - 1))
    return (many, tuple(sorted(rows)))
