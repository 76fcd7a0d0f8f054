"""Which kinds of values there are, and the first fault of a value that is none.

A fault is a pair (word, at). The faults stand here and not beside the judges, so that a value is of a kind
exactly if its judge finds nothing.
"""

LETTERS = "abcdefghijklmnopqrstuvwxyz"
CAPITALS = "ABCDEFGHIJKLMNOPQRSTUVWXYZ"
DIGITS = "0123456789"


def is_integer(thing):
    """Whether thing is an int, but no bool."""
    return isinstance(thing, int) and not isinstance(thing, bool)


def is_number(thing):
    """Whether thing is an integer that is at least 0."""
    return is_integer(thing) and thing >= 0


def is_positive(thing):
    """Whether thing is an integer from 1 on."""
    return is_integer(thing) and thing >= 1


def is_index(thing, size):
    """Whether thing is a number below size."""
    return is_number(thing) and thing < size


def is_one_of(thing, numbers):
    """Whether thing is one of these integers; True is none."""
    return is_integer(thing) and thing in numbers


def is_tuple_of(thing, size):
    """Whether thing is a tuple with so many elements."""
    return isinstance(thing, tuple) and len(thing) == size


def is_word_of(thing, signs):
    """Whether thing is a string of these signs, perhaps the empty one."""
    return isinstance(thing, str) and all([sign in signs for sign in thing])


def ascends(things):
    """Whether each thing is greater than the one before; the things can be compared."""
    return all([things[index - 1] < things[index] for index in range(1, len(things))])


def is_mark(thing):
    """Whether thing is a lowercase letter."""
    return is_word_of(thing, LETTERS) and len(thing) == 1


def is_label(thing):
    """Whether thing is a lowercase letter."""
    return is_mark(thing)


def is_lot(thing):
    """Whether thing is a string of different marks, ascending."""
    return is_word_of(thing, LETTERS) and ascends(thing)


def is_row(many, thing):
    """Whether thing is a row of a table for many."""
    if not is_one_of(many, (2, 3)) or not is_word_of(thing, LETTERS):
        return False
    return len(thing) == many + 1 and list(thing[1:]) == sorted(thing[1:])


def is_table(thing):
    """Whether thing is a table."""
    return table_fault(thing) is None


def is_shape(many, thing):
    """Whether thing is a shape for many."""
    return is_one_of(many, (2, 3)) and shape_fault(many, thing) is None


def is_marking(thing):
    """Whether thing is a nonempty string of marks and ?."""
    return is_word_of(thing, LETTERS + "?") and thing != ""


def is_tree(many, thing):
    """Whether thing is a tree for many."""
    return is_one_of(many, (1, 2)) and tree_fault(many, thing) is None


def is_surrounding(many, thing):
    """Whether thing is a surrounding for many: a tree but for one hole."""
    if not is_one_of(many, (1, 2)) or not isinstance(thing, str) or thing.count("_") != 1:
        return False
    return nesting_fault(many, thing, CAPITALS, LETTERS + "_") is None


def is_machine(thing):
    """Whether thing is a machine."""
    return machine_fault(thing) is None


def is_tag(thing):
    """Whether thing is a string of a label and a digit."""
    return isinstance(thing, str) and len(thing) == 2 and thing[0] in LETTERS and thing[1] in DIGITS


def is_notes(thing):
    """Whether thing is a nonempty string of digits and ?."""
    return is_word_of(thing, DIGITS + "?") and thing != ""


def is_checker(thing):
    """Whether thing is a checker."""
    return checker_fault(thing) is None


def is_tag_row(many, thing):
    """Whether thing is a string of many + 1 tags; many is 1 or 2."""
    if not isinstance(thing, str) or len(thing) != 2 * many + 2:
        return False
    return all([is_tag(tag) for tag in row_tags(thing)])


def row_tags(row):
    """The list of the pieces of two signs of a row."""
    return [row[index:index + 2] for index in range(0, len(row), 2)]


def tags_in(checker):
    """The set of the tags of a checker."""
    _, tops, leaves, rows = checker
    return tuple(sorted(set([*tops, *leaves, *row_tags("".join(rows))])))


def is_tag_set(thing):
    """Whether thing is a set of tags."""
    return isinstance(thing, tuple) and all([is_tag(tag) for tag in thing]) and ascends(thing)


def is_standing_set(thing, count):
    """Whether thing is a set of numbers below count."""
    return isinstance(thing, tuple) and all([is_index(standing, count) for standing in thing]) and ascends(thing)


def nesting_fault(many, thing, inner, outer):
    """The first fault of a string of nested signs; those of inner have many children, those of outer none."""
    if not isinstance(thing, str):
        return ("shape", -1)
    lacking = 1
    for index, sign in enumerate(thing):
        if sign not in inner and sign not in outer:
            return ("sign", index)
        if lacking == 0:
            return ("more", index)
        lacking = lacking - 1 + (many if sign in inner else 0)
    return None if lacking == 0 else ("lacks", lacking)


def shape_fault(many, thing):
    """The first fault of a shape for many, 2 or 3."""
    return nesting_fault(many, thing, "+", ".")


def tree_fault(many, thing):
    """The first fault of a tree for many, 1 or 2."""
    return nesting_fault(many, thing, CAPITALS, LETTERS)


def rows_fault(rows, fitting):
    """The first fault of rows, fitting telling of each one whether it is a row by itself."""
    for index, row in enumerate(rows):
        if not fitting[index]:
            return ("row", index)
        if index > 0 and row <= rows[index - 1]:
            return ("order", index)
    return None


def table_fault(thing):
    """The first fault of a table."""
    if not is_tuple_of(thing, 2):
        return ("shape", -1)
    many, rows = thing
    if not is_one_of(many, (2, 3)):
        return ("many", -1)
    if not isinstance(rows, tuple) or len(rows) == 0:
        return ("rows", -1)
    return rows_fault(rows, [is_row(many, row) for row in rows])


def machine_fault(thing):
    """The first fault of a machine."""
    if not is_tuple_of(thing, 6):
        return ("shape", -1)
    many, labels, count, leaves, steps, good = thing
    if not is_one_of(many, (1, 2)):
        return ("many", -1)
    if not is_lot(labels) or labels == "":
        return ("labels", -1)
    if not is_integer(count) or count < 1:
        return ("count", -1)
    fault = leaves_fault(leaves, len(labels), count)
    if fault is None:
        fault = steps_fault(steps, len(labels), count, steps_size(many, count))
    if fault is None and not is_standing_set(good, count):
        fault = ("good", -1)
    return fault


def steps_size(many, count):
    """How many elements the steps of a label have."""
    return count if many == 1 else count * count


def leaves_fault(leaves, size, count):
    """The first fault of the leaves of a machine with so many labels."""
    if not is_tuple_of(leaves, size):
        return ("leaves", -1)
    for index, standing in enumerate(leaves):
        if not is_index(standing, count):
            return ("leaves", index)
    return None


def steps_fault(steps, size, count, length):
    """The first fault of the steps of a machine with so many labels, length elements for each."""
    if not is_tuple_of(steps, size):
        return ("steps", -1)
    for index, row in enumerate(steps):
        if not is_tuple_of(row, length):
            return ("steps", index)
        for spot, standing in enumerate(row):
            if not is_index(standing, count):
                return ("step", (index, spot))
    return None


def checker_fault(thing):
    """The first fault of a checker."""
    if not is_tuple_of(thing, 4):
        return ("shape", -1)
    many, tops, leaves, rows = thing
    if not is_one_of(many, (1, 2)):
        return ("many", -1)
    if not is_tag_set(tops):
        return ("tops", -1)
    if not is_tag_set(leaves):
        return ("leaves", -1)
    if not isinstance(rows, tuple):
        return ("rows", -1)
    return rows_fault(rows, [is_tag_row(many, row) for row in rows])
