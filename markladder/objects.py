"""Tables, machines and checkers as objects that never change."""

from markladder.changes import cut_to, with_row, without_row
from markladder.checks import is_mark_of, need
from markladder.judges import lets_checker, lets_machine, lets_table
from markladder.kinds import is_index, is_tag_row, is_tree, tags_in
from markladder.readings import checker_read, machine_read, table_read
from markladder.standings import top_standing
from markladder.tableparts import marks_of, rows_of
from markladder.texts import checker_line, machine_line, table_line


class Table:
    """A table as an object; form is the table itself."""

    def __init__(self, many, rows):
        lets_table((many, rows))
        self.form = (many, rows)
        self.rows = rows

    @classmethod
    def read(cls, text):
        """The Table that the text writes."""
        many, rows = table_read(text)
        return cls(many, rows)

    @property
    def many_now(self):
        """How many marks are below in each row."""
        return self.form[0]

    @property
    def rows_now(self):
        """The tuple of the rows."""
        return self.form[1]

    @property
    def marks_now(self):
        """The lot of the marks."""
        return marks_of(self.form)

    def __str__(self):
        return str(table_line(self.form))

    def __eq__(self, other):
        return isinstance(other, Table) and self.form == other.form

    def __call__(self, mark):
        return rows_of(self.form, mark)

    def __len__(self):
        return len(self.rows)

    def __iter__(self):
        return iter(self.rows)

    def __contains__(self, x):
        return is_mark_of(x, marks_of(self.form))

    def __getitem__(self, at):
        need(is_index(at, len(self.rows)), "index")
        return self.rows[at]

    def __add__(self, other):
        many, rows = with_row(self.form, other)
        return Table(many, rows)

    def __sub__(self, other):
        many, rows = without_row(self.form, other)
        return Table(many, rows)

    def __and__(self, other):
        many, rows = cut_to(self.form, other)
        return Table(many, rows)


class Machine:
    """A machine as an object; form is the machine itself."""

    def __init__(self, many, labels, count, leaves, steps, good):
        lets_machine((many, labels, count, leaves, steps, good))
        self.form = (many, labels, count, leaves, steps, good)
        self.labels = labels

    @classmethod
    def read(cls, text):
        """The Machine that the text writes."""
        many, labels, count, leaves, steps, good = machine_read(text)
        return cls(many, labels, count, leaves, steps, good)

    @property
    def many_now(self):
        """How many children a place has that has any."""
        return self.form[0]

    @property
    def labels_now(self):
        """The string of the labels."""
        return self.form[1]

    @property
    def count_now(self):
        """How many standings there are."""
        return self.form[2]

    @property
    def good_now(self):
        """The set of the good standings."""
        return self.form[5]

    def holds_for(self, thing):
        """Whether any value is a tree that has the property."""
        return is_tree_of(self.form, thing) and top_standing(self.form, thing) in self.form[5]

    def __str__(self):
        return str(machine_line(self.form))

    def __eq__(self, other):
        return isinstance(other, Machine) and self.form == other.form

    def __call__(self, tree):
        need(is_tree_of(self.form, tree), "tree")
        return top_standing(self.form, tree)

    def __len__(self):
        return len(self.labels)

    def __iter__(self):
        return iter(self.labels)

    def __contains__(self, x):
        return is_mark_of(x, self.labels)

    def __getitem__(self, at):
        need(is_mark_of(at, self.labels), "label")
        spot = self.labels.index(at)
        return (self.form[3][spot], self.form[4][spot])

    def __add__(self, other):
        many, labels, count, leaves, steps, good = self.form
        need(is_index(other, count) and other not in good, "standing")
        return Machine(many, labels, count, leaves, steps, tuple(sorted([*good, other])))

    def __sub__(self, other):
        many, labels, count, leaves, steps, good = self.form
        need(is_index(other, count) and other in good, "standing")
        return Machine(many, labels, count, leaves, steps, tuple([kept for kept in good if kept != other]))


class Checker:
    """A checker as an object; form is the checker itself."""

    def __init__(self, many, tops, leaves, rows):
        lets_checker((many, tops, leaves, rows))
        self.form = (many, tops, leaves, rows)
        self.rows = rows

    @classmethod
    def read(cls, text):
        """The Checker that the text writes."""
        many, tops, leaves, rows = checker_read(text)
        return cls(many, tops, leaves, rows)

    @property
    def many_now(self):
        """How many children a place has that has any."""
        return self.form[0]

    @property
    def tops_now(self):
        """The set of the tags that the top may have."""
        return self.form[1]

    @property
    def leaves_now(self):
        """The set of the tags that places without children may have."""
        return self.form[2]

    @property
    def tags_now(self):
        """The set of all tags."""
        return tags_in(self.form)

    def __str__(self):
        return str(checker_line(self.form))

    def __eq__(self, other):
        return isinstance(other, Checker) and self.form == other.form

    def __len__(self):
        return len(self.rows)

    def __iter__(self):
        return iter(self.rows)

    def __contains__(self, x):
        return x in self.rows

    def __getitem__(self, at):
        need(is_index(at, len(self.rows)), "index")
        return self.rows[at]

    def __add__(self, other):
        many, tops, leaves, rows = self.form
        need(is_tag_row(many, other) and other not in rows, "row")
        return Checker(many, tops, leaves, tuple(sorted([*rows, other])))

    def __sub__(self, other):
        many, tops, leaves, rows = self.form
        need(other in rows, "row")
        return Checker(many, tops, leaves, tuple([kept for kept in rows if kept != other]))


def is_tree_of(machine, thing):
    """Whether any value is a tree of labels of the machine."""
    return is_tree(machine[0], thing) and all([label in machine[1] for label in thing.lower()])
