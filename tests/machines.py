"""Machines, checkers and trees for the tests, and slow ways to what they tell."""

import itertools
import random

from values import EVEN, PARITY, TWINS, ref_surrounding

GAP = (1, 'a', 3, (0,), ((1, 2, 2),), (0, 2))
ALL = (1, 'ab', 1, (0, 0), ((0,), (0,)), (0,))
NONE = (1, 'ab', 1, (0, 0), ((0,), (0,)), ())
RAFT = (1, 'ab', 4, (0, 3), ((0, 1, 2, 3), (1, 2, 1, 2)), (0, 1))
MIX = (1, 'a', 4, (0,), ((1, 2, 3, 2),), (0, 1, 2))
DEEP = (2, 'a', 4, (0,), (tuple(min(p, q) + 1 if p == q and p < 3 else 0 for p in range(4) for q in range(4)),), (3,))
# A tree with b has the property nowhere.
ONLY_A = (1, 'ab', 2, (0, 1), ((0, 1), (1, 1)), (0,))
# Standings 2 and 3 are not met.
UNMET = (2, 'ab', 4, (0, 1), ((0,) * 16, (1,) * 16), (1, 2))


def some_machine(chance, many=None, labels=None, most=5):
    many = many or chance.choice((1, 1, 2))
    labels = labels or ''.join(sorted(chance.sample('abcd', chance.randint(1, 3 if many == 1 else 2))))
    count = chance.randint(1, most)
    leaves = tuple(chance.randrange(count) for _ in labels)
    steps = tuple(tuple(chance.randrange(count) for _ in range(count ** many)) for _ in labels)
    good = tuple(sorted(chance.sample(range(count), chance.randint(0, count))))
    return (many, labels, count, leaves, steps, good)


def some_machines(seed, number, **told):
    chance = random.Random(seed)
    return [some_machine(chance, **told) for _ in range(number)]


MACHINES = [EVEN, TWINS, GAP, ALL, NONE, RAFT, MIX, DEEP, ONLY_A, UNMET, *some_machines(110, 60)]


def some_checker(chance, many, labels='ab', notes='012', most=14):
    tags = [label + note for label in labels for note in notes]
    rows = sorted({''.join(chance.choice(tags) for _ in range(many + 1)) for _ in range(chance.randint(0, most))})
    pick = lambda: tuple(sorted(chance.sample(tags, chance.randint(0, len(tags)))))
    return (many, pick(), pick(), tuple(rows))


def some_checkers(seed, number):
    chance = random.Random(seed)
    return [some_checker(chance, chance.choice((1, 2))) for _ in range(number)]


CHECKERS = [PARITY, (1, (), (), ()), (2, ('a0',), ('a0',), ('a0a0a0',)), (2, ('a9',), ('a0', 'a3', 'a9'), ('a9a0a3', 'a9a9a9')),
            *some_checkers(111, 80)]


def trees_up_to(many, labels, signs):
    """All trees of these labels with at most so many signs, the least ones first."""
    trees = {1: list(labels)}
    for size in range(2, signs + 1):
        trees[size] = []
        for sizes in itertools.product(range(1, size), repeat=many):
            if sum(sizes) == size - 1:
                for parts in itertools.product(*[trees[one] for one in sizes]):
                    trees[size].extend(label.upper() + ''.join(parts) for label in labels)
    return [tree for size in range(1, signs + 1) for tree in sorted(trees[size])]


def small_trees(many, labels):
    """Some hundred trees, all up to some size."""
    most = {1: 12, 2: 7, 3: 5, 4: 4}[len(labels)] if many == 1 else {1: 11, 2: 5, 3: 5, 4: 3}[len(labels)]
    return trees_up_to(many, labels, most)


def some_tree(chance, many, labels, forks):
    shape = '.'
    for _ in range(forks):
        leaf = chance.choice([place for place, sign in enumerate(shape) if sign == '.'])
        shape = shape[:leaf] + '+' + '.' * many + shape[leaf + 1:]
    return ''.join(chance.choice(labels).upper() if sign == '+' else chance.choice(labels) for sign in shape)


def run(machine, tree):
    """The standing of the top, None if a label is none of the machine's."""
    many, labels, count, leaves, steps, _ = machine

    def read(place):
        sign = tree[place]
        spot = labels.find(sign.lower())
        if spot < 0:
            raise LookupError(sign)
        if sign.islower():
            return leaves[spot], place + 1
        first, end = read(place + 1)
        if many == 1:
            return steps[spot][first], end
        second, end = read(end)
        return steps[spot][first * count + second], end
    try:
        return read(0)[0]
    except LookupError:
        return None


def holds(machine, tree):
    return run(machine, tree) in machine[5]


def key(tree):
    return (len(tree), tree)


def least_by(many, labels, leaf, step):
    """The least tree for each state, by going on as long as something becomes less."""
    best = {}
    for label in labels:
        state = leaf(label)
        best[state] = min([best.get(state, label), label], key=key)
    changes = True
    while changes:
        changes = False
        for children in itertools.product(list(best), repeat=many):
            for label in labels:
                state, tree = step(label, children), label.upper() + ''.join(best[child] for child in children)
                if state not in best or key(tree) < key(best[state]):
                    best[state] = tree
                    changes = True
    return best


def step(machine, label, children):
    many, labels, count, _, steps, _ = machine
    spot = children[0] if many == 1 else children[0] * count + children[1]
    return steps[labels.index(label)][spot]


def leaf(machine, label):
    return machine[3][machine[1].index(label)]


def least_trees(machine):
    """The least tree of each standing that is met."""
    return least_by(machine[0], machine[1], lambda label: leaf(machine, label), lambda label, below: step(machine, label, below))


def met_with(machine, label):
    """The standings that are met at the label."""
    found = {leaf(machine, label)}
    found.update(step(machine, label, below) for below in itertools.product(least_trees(machine), repeat=machine[0]))
    return tuple(sorted(found))


def lets(machine, surrounding):
    """The standings that are met with whose trees in the hole the whole has the property."""
    return tuple(sorted(q for q, tree in least_trees(machine).items() if holds(machine, surrounding.replace('_', tree))))


def surroundings_up_to(many, labels, signs):
    """All surroundings of these labels with at most so many signs, the hole counted."""
    return [text for text in trees_up_to(many, labels + '_', signs) if ref_surrounding(many, text)]
