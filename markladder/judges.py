"""What judges values: each judge raises the first fault, or tells how great the value is."""

from markladder.checks import judge, need
from markladder.kinds import checker_fault, is_one_of, machine_fault, shape_fault, table_fault, tags_in, tree_fault
from markladder.nesting import depths_in, has_children


def judge_fault(fault):
    """Raises a fault, if there is one."""
    if fault is not None:
        judge(False, fault[0], fault[1])


def nesting_size(many, text):
    """How many places a shape or a tree has, how many of them have children, and its height."""
    return (len(text), len([sign for sign in text if has_children(sign)]), max(depths_in(many, text)))


def lets_table(thing):
    """The pair of how many marks and how many rows a table has."""
    judge_fault(table_fault(thing))
    return (len(set("".join(thing[1]))), len(thing[1]))


def lets_shape(many, thing):
    """The triple of how many places a shape has, how many of them have children, and its height."""
    need(is_one_of(many, (2, 3)), "many")
    judge_fault(shape_fault(many, thing))
    return nesting_size(many, thing)


def lets_tree(many, thing):
    """The triple of how many places a tree has, how many of them have children, and its height."""
    need(is_one_of(many, (1, 2)), "many")
    judge_fault(tree_fault(many, thing))
    return nesting_size(many, thing)


def lets_machine(thing):
    """The pair of how many labels and how many good standings a machine has."""
    judge_fault(machine_fault(thing))
    return (len(thing[1]), len(thing[5]))


def lets_checker(thing):
    """The pair of how many different tags and how many rows a checker has."""
    judge_fault(checker_fault(thing))
    return (len(tags_in(thing)), len(thing[3]))
