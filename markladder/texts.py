"""How tables, shapes, machines and checkers are written as lines."""

from markladder.checks import need
from markladder.kinds import is_checker, is_machine, is_marking, is_shape, is_table


def table_line(table):
    """The line of a table."""
    need(is_table(table), "table")
    return words_line([str(table[0]), *table[1]])


def shape_line(shape, marking):
    """The line of a shape for 2 or for 3 and of a marking for it."""
    need(is_shape(2, shape) or is_shape(3, shape), "shape")
    need(is_marking(marking) and len(marking) == len(shape), "marking")
    return words_line([shape, marking])


def machine_line(machine):
    """The line of a machine."""
    need(is_machine(machine), "machine")
    many, labels, count, leaves, steps, good = machine
    step_words = [",".join([str(standing) for standing in row]) for row in steps]
    return words_line([str(many), labels, str(count), "leaves", *set_words(leaves),
                       "steps", *step_words, "good", *set_words(good)])


def checker_line(checker):
    """The line of a checker."""
    need(is_checker(checker), "checker")
    many, tops, leaves, rows = checker
    return words_line([str(many), "tops", *set_words(tops), "leaves", *set_words(leaves), "rows", *set_words(rows)])


def set_words(things):
    """The words of the elements of a tuple, one that says so if there are none."""
    return [str(thing) for thing in things] if len(things) > 0 else ["-"]


def words_line(words):
    """The words with single spaces between."""
    return " ".join(words)
