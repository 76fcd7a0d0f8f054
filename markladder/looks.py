"""Looks of a depth: which trees pass by them, whether they tell a machine, and papers on this."""

from markladder.checks import judge, need
from markladder.cutparts import cut_below, cut_trees, inner_cuts, inner_surroundings, need_depth, top_cuts
from markladder.kinds import is_index, is_machine, is_number, is_tuple_of
from markladder.nesting import children_in, depths_in
from markladder.objects import is_tree_of
from markladder.running import has
from markladder.terms import choices_of, leaf_of, least_tree, least_trees, step_of


def passes(machine, tree, depth):
    """Whether the tree passes at the depth."""
    need(is_machine(machine), "machine")
    need(is_tree_of(machine, tree), "tree")
    need(is_number(depth), "depth")
    top, *inner = cuts_in(machine[0], tree, depth)
    known = inner_cuts(machine, depth)
    return top in top_cuts(machine, depth) and all([cut in known for cut in inner])


def tells_by_looks(machine, depth):
    """Whether looks of the depth tell the machine."""
    return passing_fault(machine, depth) is None


def least_look(machine):
    """The least depth within the limit of which looks tell the machine, None if there is none."""
    need(is_machine(machine), "machine")
    for depth in range(4 if machine[0] == 1 else 2):
        if tells_by_looks(machine, depth):
            return depth
    return None


def looks_paper(machine, depth):
    """A paper on whether looks of the depth tell the machine."""
    tree = passing_fault(machine, depth)
    if tree is None:
        return ("closed", tuple(sorted(passing_pairs(machine, depth))))
    return ("tree", tree, tuple(witnesses_for(machine, tree, depth)))


def lets_looks(machine, depth, thing):
    """Whether looks of the depth tell the machine, as the paper says."""
    need_depth(machine, depth)
    judge(is_closed_paper(thing) or is_tree_paper(thing), "shape", -1)
    if is_closed_paper(thing):
        judge_pairs(machine, depth, thing[1])
        judge_closed(machine, depth, thing[1])
        return True
    judge_witnesses(machine, depth, thing[1], thing[2])
    return False


def cuts_in(many, tree, depth):
    """The list of the cut parts of all places."""
    children = children_in(many, tree)
    return [cut_below(tree, children, place, depth) for place in range(len(tree))]


def pair_above(machine, depth, label, below):
    """The cut part and the standing of a place with this label, its children having these pairs of both."""
    if len(below) == 0:
        return (label, leaf_of(machine, label))
    standing = step_of(machine, label, [told for _, told in below])
    if depth == 0:
        return (label, standing)
    cuts = [cut_below(cut, children_in(machine[0], cut), 0, depth - 1) for cut, _ in below]
    return (label.upper() + "".join(cuts), standing)


def passing_fault(machine, depth):
    """The least tree that passes at the depth and lacks the property, None if there is none."""
    inner = inner_cuts(machine, depth)
    tops = top_cuts(machine, depth)
    return least_tree(machine[0], machine[1],
                      lambda label: passing(machine, inner, tops, pair_above(machine, depth, label, ())),
                      lambda label, below: passing(machine, inner, tops, pair_above(machine, depth, label, below)),
                      lambda pair: is_wrong_top(machine, tops, pair))


def passing_pairs(machine, depth):
    """The list of the pairs of a cut part and a standing of the trees all of whose places have inner cut parts."""
    inner = inner_cuts(machine, depth)
    return list(least_trees(machine[0], machine[1],
                            lambda label: passing(machine, inner, (), pair_above(machine, depth, label, ())),
                            lambda label, below: passing(machine, inner, (), pair_above(machine, depth, label, below)),
                            lambda pair: False))


def passing(machine, inner, tops, pair):
    """The pair, None if its cut part is none of the inner ones and no top of it would be wrong."""
    return pair if pair[0] in inner or is_wrong_top(machine, tops, pair) else None


def is_wrong_top(machine, tops, pair):
    """Whether a top with this cut part and standing passes without the property."""
    return pair[0] in tops and pair[1] not in machine[5]


def witnesses_for(machine, tree, depth):
    """For each place of a tree that passes a tree with the property and a place of it with an equal cut part."""
    trees = cut_trees(machine, depth)
    around_place = inner_surroundings(machine)
    top, *inner = cuts_in(machine[0], tree, depth)
    witnesses = [(first_tree(trees, top, machine[5])[0], 0)]
    for cut in inner:
        part, standing = first_tree(trees, cut, list(around_place))
        witnesses.append((around_place[standing].replace("_", part), around_place[standing].index("_")))
    return witnesses


def first_tree(trees, cut, standings):
    """The first tree with the cut part and one of these standings, and its standing."""
    return [(trees[pair], pair[1]) for pair in trees if pair[0] == cut and pair[1] in standings][0]


def is_closed_paper(thing):
    """Whether any value is a pair of the word closed and a tuple."""
    return is_tuple_of(thing, 2) and thing[0] == "closed" and isinstance(thing[1], tuple)


def is_tree_paper(thing):
    """Whether any value is a triple of the word tree, any value and a tuple."""
    return is_tuple_of(thing, 3) and thing[0] == "tree" and isinstance(thing[2], tuple)


def judge_pairs(machine, depth, pairs):
    """Judges the form of the pairs, and their order."""
    for index, pair in enumerate(pairs):
        judge(is_pair(machine, depth, pair), "pair", index)
        judge(index == 0 or pair > pairs[index - 1], "order", index)


def is_pair(machine, depth, thing):
    """Whether any value is a pair of a tree of the machine that is no higher than the depth, and a standing."""
    if not is_tuple_of(thing, 2) or not is_tree_of(machine, thing[0]) or not is_index(thing[1], machine[2]):
        return False
    return max(depths_in(machine[0], thing[0])) <= depth


def judge_closed(machine, depth, pairs):
    """Judges what each label makes alone, and over each choice of these pairs as children."""
    inner = inner_cuts(machine, depth)
    tops = top_cuts(machine, depth)
    known = {pair: True for pair in pairs}
    choices = choices_of([list(range(len(pairs))) for _ in range(machine[0])])
    for spot, label in enumerate(machine[1]):
        for indexes in [(), *choices]:
            pair = pair_above(machine, depth, label, [pairs[index] for index in indexes])
            judge(pair[0] not in inner or pair in known, "inner", (spot, *indexes))
            judge(not is_wrong_top(machine, tops, pair), "top", (spot, *indexes))


def judge_witnesses(machine, depth, tree, witnesses):
    """Judges a tree that lacks the property, and the witnesses for its places."""
    judge(is_tree_of(machine, tree), "tree", -1)
    judge(not has(machine, tree), "has", -1)
    judge(len(witnesses) == len(tree), "many", -1)
    cuts = cuts_in(machine[0], tree, depth)
    for place, witness in enumerate(witnesses):
        judge(is_witness(machine, witness, place == 0), "witness", place)
        other, spot = witness
        judge(cut_below(other, children_in(machine[0], other), spot, depth) == cuts[place], "cut", place)


def is_witness(machine, thing, is_top):
    """Whether any value is a pair of a tree with the property and a place of it, the top or another one as told."""
    if not is_tuple_of(thing, 2) or not is_tree_of(machine, thing[0]) or not has(machine, thing[0]):
        return False
    return is_index(thing[1], len(thing[0])) and (thing[1] == 0) == is_top
