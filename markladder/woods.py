"""A live wood: it grows, and bits and marks are laid in it, event by event."""

from markladder.bitmarks import lets_bits, marking_by
from markladder.checks import need
from markladder.errors import InvalidEvent, InvalidPaper, NothingToUndo
from markladder.growth import first_state, state_behind, walked_marking
from markladder.kinds import is_index, is_shape, is_table
from markladder.woodevents import is_log


class Wood:
    """A live wood. Of its states there is one for the beginning, and one more behind each event."""

    MOST = 40

    def __init__(self, table, shape):
        need(is_table(table), "table")
        need(is_shape(table[0], shape), "shape")
        self.beginning = ("wood", table, shape)
        self.events = ()
        self.states = (first_state(table, shape),)
        self.started = 0
        self.finished = 0
        self.settle()

    def settle(self):
        """Tells anew what is known of the state that is there now."""
        table, shape, bits, _, _ = self.states[-1]
        self.cry = cry_of(table, shape, bits)
        self.laid = marking_by(table, shape, bits, 0)
        self.walked = walked_marking(self.states[-1])

    @property
    def table_now(self):
        """The table."""
        return self.states[-1][0]

    @property
    def shape_now(self):
        """The shape."""
        return self.states[-1][1]

    @property
    def bits_now(self):
        """The bits."""
        return self.states[-1][2]

    @property
    def cry_now(self):
        """What is wrong with the bits, and where, None if nothing is."""
        return self.cry

    @property
    def laid_now(self):
        """The marking that the bits tell, None without any."""
        return self.laid

    @property
    def kind_now(self):
        """The kind of the last walk, None without any."""
        walker = self.states[-1][3]
        return None if walker is None else walker[0]

    @property
    def walked_now(self):
        """The marking that the walker lays, None without any."""
        return self.walked

    @property
    def names_now(self):
        """The set of the names of moments."""
        return tuple(sorted(self.states[-1][4]))

    def happen(self, event):
        """Lets an event happen, and returns what is wrong with the bits then."""
        self.started = self.started + 1
        finished = self.finished + 1
        try:
            self.let_happen((event,), False)
        finally:
            self.finished = finished
        return self.cry

    def sprout(self, place):
        """Lets this place get children without children."""
        return self.happen(("sprout", place))

    def prune(self, place):
        """Lets this place lose all below it."""
        return self.happen(("prune", place))

    def bit(self, place):
        """Turns the bit of this place."""
        return self.happen(("bit", place))

    def helper(self, marking):
        """Lets a helper lay the bits by this marking."""
        return self.happen(("helper", marking))

    def walk(self, kind):
        """Lets a walker of this kind lay marks from now on."""
        return self.happen(("walk", kind))

    def mark(self, name):
        """Gives this moment this name."""
        return self.happen(("mark", name))

    def barred(self, event):
        """The reason for which any value is refused as an event, None without any."""
        _, reason = self.states_behind((event,))
        return reason

    def tried(self, *events):
        """The pair of the shape and the bits as they are behind these events, of which none happens."""
        states, reason = self.states_behind(events)
        if reason is not None:
            raise InvalidEvent(events[len(states) - 1], reason)
        return (states[-1][1], states[-1][2])

    def undo(self):
        """Takes back the last event, and returns it."""
        self.started = self.started + 1
        finished = self.finished + 1
        try:
            return self.take_back()
        finally:
            self.finished = finished

    def do_all(self, *events, keep=False):
        """Lets the events happen in order, and returns how many; keep tells what stays if one is refused."""
        self.started = self.started + 1
        finished = self.finished + 1
        try:
            need(isinstance(keep, bool), "keep")
            self.let_happen(events, keep)
        finally:
            self.finished = finished
        return len(events)

    def since(self, name):
        """The tuple of the events behind the moment with this name."""
        need(name in self.names_now, "name")
        return self.events[self.events.index(("mark", name)) + 1:]

    def log(self):
        """The tuple of the beginning and the events."""
        return (self.beginning, *self.events)

    def counts(self):
        """How many calls that change the wood, or would, were started, and how many were finished."""
        return (self.started, self.finished)

    def let_happen(self, events, keep):
        """Lets the events happen in order; if one is refused, those ahead of it stay if keep says so."""
        states, reason = self.states_behind(events)
        number = len(states) - 1
        if reason is None or keep:
            self.events = (*self.events, *events[:number])
            self.states = (*self.states, *states[1:])
            self.settle()
        if reason is not None:
            raise InvalidEvent(events[number], reason)

    def take_back(self):
        """Takes back the last event, and returns it."""
        if len(self.events) == 0:
            raise NothingToUndo(0)
        event = self.events[-1]
        self.events = self.events[:-1]
        self.states = self.states[:-1]
        self.settle()
        return event

    def states_behind(self, events):
        """The list of the state now and those behind the events, up to the first one that is refused, and why it is."""
        states = [self.states[-1]]
        for index, event in enumerate(events):
            reason, state = state_behind(states[-1], event, len(self.events) + index >= Wood.MOST)
            if reason is not None:
                return states, reason
            states.append(state)
        return states, None

    def __iadd__(self, other):
        self.happen(other)
        return self

    def __eq__(self, other):
        return isinstance(other, Wood) and self.beginning == other.beginning and self.events == other.events

    def __len__(self):
        return len(self.states[-1][1])

    def __iter__(self):
        return iter(self.events)

    def __contains__(self, x):
        return x in self.states[-1][4]

    def __getitem__(self, at):
        _, shape, bits, _, _ = self.states[-1]
        need(is_index(at, len(shape)), "place")
        laid = "?" if self.laid is None else self.laid[at]
        walked = "?" if self.walked is None else self.walked[at]
        return (bits[at], laid, walked)


def replayed(log):
    """A new Wood behind the events of a log."""
    need(is_log(log), "log")
    beginning, *events = log
    wood = Wood(beginning[1], beginning[2])
    wood.let_happen(tuple(events), False)
    return wood


def cry_of(table, shape, bits):
    """The pair of the word and the place of the error by which the bits are not let, None if they are."""
    try:
        lets_bits(table, shape, bits, 0)
    except InvalidPaper as fault:
        return (fault.word, fault.at)
    return None
