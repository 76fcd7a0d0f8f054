"""Papers on rungs."""

from markladder.checks import is_mark_of, judge, need
from markladder.errors import InvalidPaper
from markladder.kinds import is_table, is_tuple_of
from markladder.roots import lets_root, root_paper
from markladder.rungs import is_rung, rung_of
from markladder.walkerpapers import lets_walker, walker_paper
from markladder.walkers import alike_marks

# The kind of walker of which it is to be told that there is none.
BARRED = (("log", "sides"), ("sides", "below"))


def rung_paper(table):
    """A paper that lets_rung accepts."""
    rung = rung_of(table)
    if rung == "alike":
        held = alike_marks(table)[0]
    elif rung in ("sides", "below"):
        held = walker_paper(table, rung)
    else:
        held = root_paper(table)
    barred = None
    for name, kind in BARRED:
        if rung == name:
            barred = walker_paper(table, kind)
    return ("rung", rung, held, barred)


def lets_rung(table, thing):
    """The rung of the table, as the paper says."""
    need(is_table(table), "table")
    judge(is_tuple_of(thing, 4) and thing[0] == "rung", "shape", -1)
    _, rung, held, barred = thing
    judge(is_rung(rung), "rung", -1)
    judge(is_held(table, rung, held), "held", -1)
    judge(is_barred(table, rung, barred), "barred", -1)
    judge(rung != "below" or alike_marks(table) == "", "alike", -1)
    return rung


def is_held(table, rung, held):
    """Whether any value tells that the table is on this rung, or on a higher one."""
    if rung == "alike":
        return is_mark_of(held, alike_marks(table))
    if rung in ("sides", "below"):
        return says_walker(table, rung, held) == "some"
    return says_root(table, held) == rung


def is_barred(table, rung, barred):
    """Whether any value tells that the table is on no higher rung, as far as this is to be told."""
    for name, kind in BARRED:
        if rung == name:
            return says_walker(table, kind, barred) == "none"
    return barred is None


def says_root(table, paper):
    """The rung that a paper on the root says: a written number, the one of no number, or None if it is no paper."""
    try:
        root = lets_root(table, paper)
    except InvalidPaper:
        return None
    return "log" if root is None else str(root)


def says_walker(table, kind, paper):
    """Whether a paper on walkers says that there are some or none; None if it is no paper."""
    try:
        found = lets_walker(table, kind, paper)
    except InvalidPaper:
        return None
    return "some" if found else "none"
