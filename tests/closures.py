"""Closed bundles, greatest checkers, choices and needs for the tests, straight from the definitions."""

import itertools

from machines import MACHINES, leaf, least_trees, met_with, some_machines, step


def some_bundles(standings):
    return [bundle for size in range(len(standings) + 1) for bundle in itertools.combinations(standings, size)]


def accepts_of(machine):
    """All bundles that surroundings let, from the one of the hole alone on."""
    standings = sorted(least_trees(machine))
    found, waiting = set(), [tuple(q for q in standings if q in machine[5])]
    while waiting:
        bundle = waiting.pop()
        if bundle in found:
            continue
        found.add(bundle)
        for label, spot in itertools.product(machine[1], range(machine[0])):
            for others in itertools.product(standings, repeat=machine[0] - 1):
                waiting.append(tuple(q for q in standings if step(machine, label, others[:spot] + (q,) + others[spot:]) in bundle))
    return tuple(sorted(found))


def closed_at(machine, label):
    met = met_with(machine, label)
    lots = {tuple(q for q in met if q in bundle) for bundle in accepts_of(machine)}
    found = []
    for some in some_bundles(met)[1:]:
        around = [set(one) for one in lots if set(some) <= set(one)]
        if around and set.intersection(*around) == set(some):
            found.append(some)
    return tuple(sorted(found))


def outer_at(machine, label):
    met = met_with(machine, label)
    return sorted({tuple(q for q in met if q in bundle) for bundle in accepts_of(machine)} - {()})


def inner_at(machine, label):
    closed = closed_at(machine, label)
    around = [[bundle for bundle in closed if q in bundle] for q in met_with(machine, label)]
    return sorted({min(bundles, key=len) for bundles in around if bundles})


def needs_of(machine, label):
    return [(bundle, q) for bundle in outer_at(machine, label) for q in bundle]


def serves(bundle, need):
    return need[1] in bundle and set(bundle) <= set(need[0])


def covers(bundles, needs):
    return all(any(serves(bundle, need) for bundle in bundles) for need in needs)


def least_trees_at(machine, label):
    """For each standing met at the label a tree of it with this label at its top."""
    found = {leaf(machine, label): label}
    trees = least_trees(machine)
    for below in itertools.product(trees, repeat=machine[0]):
        found.setdefault(step(machine, label, below), label.upper() + ''.join(trees[q] for q in below))
    return found


def bundles_of(machine):
    """For each tag of the greatest checker its bundle."""
    return {f'{label}{note}': bundle for label in machine[1] for note, bundle in enumerate(closed_at(machine, label))}


def greatest_of(machine):
    bundles = bundles_of(machine)
    rows = []
    for row in itertools.product(bundles, repeat=machine[0] + 1):
        choices = itertools.product(*[bundles[tag] for tag in row[1:]])
        if all(step(machine, row[0][0], choice) in bundles[row[0]] for choice in choices):
            rows.append(''.join(row))
    tops = [tag for tag in bundles if set(bundles[tag]) <= set(machine[5])]
    leaves = [tag for tag in bundles if leaf(machine, tag[0]) in bundles[tag]]
    return (machine[0], tuple(sorted(tops)), tuple(sorted(leaves)), tuple(sorted(rows)))


def tags_of_row(row):
    return [row[index:index + 2] for index in range(0, len(row), 2)]


def chosen(checker, tags):
    """The checker with these tags alone."""
    many, tops, leaves, rows = checker
    return (many, tuple(tag for tag in tops if tag in tags), tuple(tag for tag in leaves if tag in tags),
            tuple(row for row in rows if set(tags_of_row(row)) <= set(tags)))


def states_of(checker, machine):
    """All pairs of the tags that are let at the top of a tree of the machine's labels, and of its standing."""
    rows = [tags_of_row(row) for row in checker[3]]
    found = {(frozenset(tag for tag in checker[2] if tag[0] == label), leaf(machine, label)) for label in machine[1]}
    size = 0
    while size < len(found):
        size = len(found)
        for below in itertools.product(list(found), repeat=machine[0]):
            let = [row[0] for row in rows if all(tag in tags for tag, (tags, _) in zip(row[1:], below))]
            for label in machine[1]:
                found.add((frozenset(tag for tag in let if tag[0] == label), step(machine, label, [q for _, q in below])))
    return found


def tells_by(checker, machine):
    """Whether the checker, whose tags have labels of the machine, tells it."""
    return all(any(tag in checker[1] for tag in tags) == (q in machine[5]) for tags, q in states_of(checker, machine))


def within_limits(machine):
    return sum(len(closed_at(machine, label)) for label in machine[1]) <= (8 if machine[0] == 1 else 6)


def limited_machines(most):
    """Machines within the limits, at most so many with each many and each number of tags."""
    found, counts = [], {}
    pool = [*some_machines(180, 400, many=1), *some_machines(181, 150, many=2, labels='a'),
            *some_machines(182, 250, many=2, labels='ab', most=3), *some_machines(183, 80, many=2, labels='abc', most=3)]
    for machine in pool:
        if within_limits(machine):
            kind = (machine[0], len(bundles_of(machine)))
            counts[kind] = counts.get(kind, 0) + 1
            if counts[kind] <= most:
                found.append(machine)
    return found


def beside(one, other):
    """The machine with the labels of both, unlike ones, many 1: a tree has the property that has it by one of both."""
    many, labels, count, leaves, steps, good = one
    last = count + other[2]
    low = tuple(row + (last,) * (other[2] + 1) for row in steps)
    high = tuple((last,) * count + tuple(q + count for q in row) + (last,) for row in other[4])
    return (many, labels + other[1], last + 1, leaves + tuple(q + count for q in other[3]), low + high,
            good + tuple(q + count for q in other[5]))


# A label of RAFT has a smaller cover by outer bundles than by inner ones; here it is the other way round.
TURNED_RAFT = (1, 'cd', 4, (0, 1), ((0, 2, 2, 3), (1, 3, 3, 2)), (0, 2))
# By bundles of one kind no cover is as small as by any.
UNCLEAR = [(1, 'a', 4, (1,), ((2, 0, 3, 2),), (0, 1, 2)), (1, 'a', 5, (3,), ((2, 0, 0, 1, 0),), (0, 1, 3, 4)),
           (1, 'a', 4, (0,), ((3, 2, 1, 1),), (0, 1, 3))]
# By outer bundles some covers are smaller than by inner ones.
BY_OUTER = [(1, 'ab', 5, (4, 3), ((1, 1, 4, 4, 1), (0, 3, 4, 1, 2)), (0, 1, 3)),
            (1, 'ab', 4, (0, 0), ((0, 0, 3, 3), (2, 3, 0, 1)), (0, 2)), (1, 'ab', 4, (2, 0), ((1, 0, 3, 2), (2, 0, 2, 0)), (2, 3))]
# Their greatest checkers have nine, nine, ten, twelve and ten tags, more than the limits let.
OVER = [(1, 'ad', 5, (4, 1), ((0, 0, 2, 4, 0), (1, 3, 1, 3, 4)), (0, 1, 2)),
        (1, 'abd', 4, (0, 3, 3), ((1, 0, 1, 1), (2, 2, 3, 2), (3, 1, 3, 1)), (1, 2, 3)),
        (1, 'ac', 4, (2, 3), ((0, 1, 2, 0), (3, 0, 2, 1)), (3,)),
        (1, 'cd', 5, (2, 4), ((3, 3, 1, 3, 2), (3, 4, 2, 3, 1)), (0, 2, 3, 4)),
        (2, 'ab', 4, (0, 3), (tuple(q for q in (0, 1, 2, 3) for _ in range(4)), tuple(q for q in (1, 2, 1, 2) for _ in range(4))), (0, 1))]
LIMITED = [machine for machine in MACHINES[:10] + UNCLEAR + BY_OUTER if within_limits(machine)] + limited_machines(9)
