"""A desk at which a live wood is asked, row by row."""

from markladder.checks import need
from markladder.errors import InvalidRow, InvalidText
from markladder.readings import table_read
from markladder.woodevents import is_name
from markladder.woods import Wood
from markladder.woodtexts import event_line, read_event


class Desk:
    """A desk for a live wood."""

    def __init__(self, table, shape):
        self.wood = Wood(table, shape)

    def say(self, row):
        """The answer to a row."""
        need(isinstance(row, str), "row")
        word, _, rest = row.partition(" ")
        if row in ("cry", "shape", "bits", "laid", "walked", "names"):
            return self.told(row)
        if row == "undo":
            return event_line(self.wood.undo())
        if row == "log":
            return lines_of(self.wood.log()[1:])
        if word == "since" and is_name(rest):
            return lines_of(self.wood.since(rest))
        if word == "bars":
            reason = self.wood.barred(event_in(row, rest))
            return answer_for(reason)
        if word == "wood":
            self.wood = Wood(table_in(row, rest), ".")
            return "ok"
        self.wood.happen(event_in(row, row))
        return self.told("cry")

    def told(self, word):
        """The property of the wood that a word names, as an answer."""
        wood = self.wood
        properties = {"cry": wood.cry_now, "shape": wood.shape_now, "bits": wood.bits_now, "laid": wood.laid_now,
                      "walked": wood.walked_now, "names": wood.names_now}
        return answer_for(properties[word])


def answer_for(thing):
    """A string, or what stands in a tuple, as an answer; - for None and for an empty tuple."""
    if thing is None or thing == ():
        return "-"
    return thing if isinstance(thing, str) else " ".join([str(one) for one in thing])


def lines_of(events):
    """The lines of events as an answer, - for none."""
    return " / ".join([event_line(event) for event in events]) if len(events) > 0 else "-"


def event_in(row, text):
    """The event that a text, a part of a row, writes."""
    try:
        return read_event(text)
    except InvalidText:
        raise InvalidRow(row) from None


def table_in(row, text):
    """The table that a text, a part of a row, writes."""
    try:
        return table_read(text)
    except InvalidText:
        raise InvalidRow(row) from None
