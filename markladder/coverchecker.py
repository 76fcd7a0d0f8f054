"""What confirms papers on covers and crossings."""

from markladder.checks import judge, need
from markladder.covers import bundles_of_kind, is_bundle_set, lack_of
from markladder.crossings import is_crossing
from markladder.kinds import is_machine, is_tuple_of


def lets_cover(machine, thing):
    """For each label the pair of how many pairs and how many bundles the paper has for it."""
    need(is_machine(machine), "machine")
    judge(is_tuple_of(thing, 2) and thing[0] in ("inner", "outer") and isinstance(thing[1], tuple), "shape", -1)
    kind, rows = thing
    judge(kind == "inner" or machine[0] == 1, "kind", -1)
    judge(len(rows) == len(machine[1]), "many", -1)
    for index, row in enumerate(rows):
        judge(is_tuple_of(row, 2) and isinstance(row[0], tuple) and isinstance(row[1], tuple), "row", index)
        judge_row(machine, machine[1][index], kind, row, index)
    return tuple([(len(pairs), len(bundles)) for bundles, pairs in rows])


def judge_row(machine, label, kind, row, index):
    """Judges the bundles and the pairs that a paper has for a label, with this index."""
    bundles, pairs = row
    judge(is_bundle_set(machine, bundles_of_kind(machine, label, kind), bundles), "bundles", index)
    judge(lack_of(machine, label, bundles) is None, "cover", index)
    judge(is_crossing(machine, label, pairs), "crossing", index)
