"""Shapes on which few rounds are not enough."""

from markladder.checks import need
from markladder.fulls import full_shape
from markladder.kinds import is_number, is_one_of, is_positive


def hard_shape(many, i, s, h):
    """The hard shape of level i, with stretches of s places and full shapes of height h and more."""
    need(is_one_of(many, (2, 3)), "many")
    need(is_positive(i), "i")
    need(is_positive(s), "s")
    need(is_number(h), "h")
    shape = full_shape(many, h)
    upper = full_shape(many, h + 1)
    for _ in range(i - 1):
        shape = upper.replace(".", "+" * s + shape * many + shape * (many - 1) * (s - 1))
    return shape
