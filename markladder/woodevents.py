"""The events of a live wood, and logs of them, by form: possible or not."""

from markladder.kinds import LETTERS, is_number, is_shape, is_table, is_tuple_of, is_word_of


def is_event(thing):
    """Whether any value is an event by form."""
    if not is_tuple_of(thing, 2):
        return False
    word, value = thing
    if word in ("sprout", "prune", "bit"):
        return is_number(value)
    if word == "helper":
        return is_marks(value)
    if word == "walk":
        return value in ("below", "sides")
    return word == "mark" and is_name(value)


def is_log(thing):
    """Whether any value is a log."""
    if not isinstance(thing, tuple) or len(thing) == 0 or not is_beginning(thing[0]):
        return False
    return all([is_event(event) for event in thing[1:]])


def is_beginning(thing):
    """Whether any value is a triple of the word wood, a table and a shape for its many."""
    if not is_tuple_of(thing, 3) or thing[0] != "wood" or not is_table(thing[1]):
        return False
    return is_shape(thing[1][0], thing[2])


def is_marks(thing):
    """Whether any value is a nonempty string of marks."""
    return is_word_of(thing, LETTERS) and thing != ""


def is_name(thing):
    """Whether any value is a name of a moment by form."""
    return is_marks(thing) and len(thing) <= 8
