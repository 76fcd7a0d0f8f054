"""Events and logs as lines, and how these are read."""

from markladder.checks import need
from markladder.errors import InvalidText
from markladder.kinds import is_shape
from markladder.readings import number_in, stand, table_read, word_at, words_of
from markladder.texts import table_line, words_line
from markladder.woodevents import is_event, is_log


def event_line(event):
    """The line of an event."""
    need(is_event(event), "event")
    word, value = event
    return words_line([word, str(value)])


def log_lines(log):
    """The list of the lines of a log."""
    need(is_log(log), "log")
    beginning, *events = log
    first = words_line(["wood", table_line(beginning[1])])
    return [first, words_line(["shape", beginning[2]]), *[event_line(event) for event in events]]


def read_event(text):
    """The event that the text writes."""
    words = words_of(text)
    word = word_at(words, 0)
    stand(word in ("sprout", "prune", "bit", "helper", "walk", "mark"), 0)
    value = word_at(words, 1)
    if word in ("sprout", "prune", "bit"):
        value = number_in(value)
    stand(is_event((word, value)), 1)
    stand(len(words) == 2, 2)
    return (word, value)


def read_log(lines):
    """The log that the lines write."""
    need(isinstance(lines, list) and all([is_line(line) for line in lines]), "lines")
    table = read_at(lines, 0, read_wood)
    shape = read_at(lines, 1, lambda text: read_shape(table[0], text))
    events = [read_at(lines, index, read_event) for index in range(2, len(lines))]
    return (("wood", table, shape), *events)


def is_line(thing):
    """Whether any value is a string without newlines."""
    return isinstance(thing, str) and "\n" not in thing


def read_at(lines, index, read):
    """What read tells of the line with this index; there must be one."""
    if index >= len(lines):
        raise InvalidText(index, 0)
    try:
        return read(lines[index])
    except InvalidText as fault:
        raise InvalidText(index, fault.field) from None


def read_wood(text):
    """The table that stands behind the word wood."""
    stand(text.split(" ")[0] == "wood", 0)
    try:
        return table_read(text[len("wood "):])
    except InvalidText as fault:
        raise InvalidText(0, fault.field + 1) from None


def read_shape(many, text):
    """The shape for many that stands behind the word shape."""
    words = words_of(text)
    stand(words[0] == "shape", 0)
    stand(is_shape(many, word_at(words, 1)), 1)
    stand(len(words) == 2, 2)
    return words[1]
