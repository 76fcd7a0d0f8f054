"""How lines are read: word by word, up to the first one that cannot stand by those ahead of it."""

from markladder.checks import need
from markladder.errors import InvalidText
from markladder.kinds import (DIGITS, is_index, is_lot, is_marking, is_one_of, is_row, is_shape, is_tag,
                              is_tag_row, is_word_of, steps_size)

MOST_DIGITS = 60


def table_read(text):
    """The table that the text writes."""
    words = words_of(text)
    many = read_many(words, ("2", "3"))
    rows, _ = read_ascending(words, 1, None, lambda word: word if is_row(many, word) else None)
    return (many, tuple(rows))


def shape_read(many, text):
    """The pair of the shape for many and the marking for it that the text writes."""
    need(is_one_of(many, (2, 3)), "many")
    words = words_of(text)
    shape = word_at(words, 0)
    stand(is_shape(many, shape), 0)
    marking = word_at(words, 1)
    stand(is_marking(marking) and len(marking) == len(shape), 1)
    stand(len(words) == 2, 2)
    return (shape, marking)


def machine_read(text):
    """The machine that the text writes."""
    words = words_of(text)
    many = read_many(words, ("1", "2"))
    labels = word_at(words, 1)
    stand(is_lot(labels) and labels != "", 1)
    count = number_in(word_at(words, 2))
    stand(count is not None and count > 0, 2)
    read_name(words, 3, "leaves")
    place = 4 + len(labels)
    leaves = [read_standing(words, index, count) for index in range(4, place)]
    read_name(words, place, "steps")
    size = steps_size(many, count)
    steps = [read_steps(words, index, count, size) for index in range(place + 1, place + 1 + len(labels))]
    place = place + 1 + len(labels)
    read_name(words, place, "good")
    good, place = read_set(words, place + 1, None, lambda word: standing_in(word, count))
    stand(place == len(words), place)
    return (many, labels, count, tuple(leaves), tuple(steps), tuple(good))


def checker_read(text):
    """The checker that the text writes."""
    words = words_of(text)
    many = read_many(words, ("1", "2"))
    read_name(words, 1, "tops")
    tops, place = read_set(words, 2, "leaves", lambda tag: tag if is_tag(tag) else None)
    read_name(words, place, "leaves")
    leaves, place = read_set(words, place + 1, "rows", lambda tag: tag if is_tag(tag) else None)
    read_name(words, place, "rows")
    rows, place = read_set(words, place + 1, None, lambda row: row if is_tag_row(many, row) else None)
    stand(place == len(words), place)
    return (many, tuple(tops), tuple(leaves), tuple(rows))


def words_of(text):
    """The list of the words of the text, empty ones too."""
    need(isinstance(text, str), "text")
    return text.split(" ")


def stand(holds, index):
    """Says that the word with this index cannot stand, if this does not hold."""
    if not holds:
        raise InvalidText(0, index)


def word_at(words, index):
    """The word with this index; there must be one."""
    stand(index < len(words), len(words))
    return words[index]


def read_many(words, choices):
    """The first word, one of these, as a number."""
    word = word_at(words, 0)
    stand(word in choices, 0)
    return int(word)


def read_name(words, index, name):
    """Demands that the word with this index is this one."""
    stand(word_at(words, index) == name, index)


def number_in(word):
    """The number that the word writes, None if it writes none."""
    if word == "" or len(word) > MOST_DIGITS or not is_word_of(word, DIGITS):
        return None
    return int(word) if word == "0" or word[0] != "0" else None


def standing_in(word, count):
    """The number below count that the word writes, None if it writes none."""
    number = number_in(word)
    return number if is_index(number, count) else None


def read_standing(words, index, count):
    """The standing that the word with this index writes."""
    standing = standing_in(word_at(words, index), count)
    stand(standing is not None, index)
    return standing


def read_steps(words, index, count, size):
    """The tuple of so many standings that the word with this index writes."""
    standings = [standing_in(word, count) for word in word_at(words, index).split(",")]
    stand(len(standings) == size and None not in standings, index)
    return tuple(standings)


def read_set(words, index, end, value_in):
    """The list of the values of the words from this one on, as read_ascending, and the index behind them.

    The word - says that there are none.
    """
    if word_at(words, index) == "-":
        return [], index + 1
    return read_ascending(words, index, end, value_in)


def read_ascending(words, index, end, value_in):
    """The list of the values, one or more, ascending, up to the word end, and the index behind them.

    If end is None, they go on to the last word. value_in tells the value of a word, None if it cannot be one.
    """
    values = []
    while len(values) == 0 or not ends_at(words, index, end):
        value = value_in(word_at(words, index))
        stand(value is not None and (len(values) == 0 or value > values[-1]), index)
        values.append(value)
        index = index + 1
    return values, index


def ends_at(words, index, end):
    """Whether the values end ahead of the word with this index."""
    if end is None:
        return index == len(words)
    return index < len(words) and words[index] == end
