"""The greatest checker, tags of use, and pairs of tags that lead one checker into another ([88] to [92])."""

import itertools
import random
import unittest

from markladder.bundles import closing
from markladder.greatest import bundle_of, greatest, tags_of
from markladder.kinds import is_checker
from markladder.noting import noted
from markladder.tagleading import is_tag_leading, leading_tags, useful
from markladder.telling import tells
from closures import LIMITED, OVER, bundles_of, chosen, greatest_of, some_bundles, tags_of_row, tells_by
from machines import ALL, CHECKERS, GAP, NONE, ONLY_A, UNMET, holds, met_with, small_trees
from values import ANY, EVEN, PARITY, TWINS, ref_checker, ref_machine, refuses, same

CHANCE = random.Random(180)
FEW = [machine for machine in LIMITED if len(bundles_of(machine)) <= 6]


def tags_in(checker):
    return sorted({tag for text in [*checker[1], *checker[2], *checker[3]] for tag in tags_of_row(text)})


def used_tags(checker):
    """The tags of use: a tree with right notes is looked for that has the tag somewhere, by marking where it stood."""
    rows = [tags_of_row(row) for row in checker[3]]
    found = []
    for tag in tags_in(checker):
        tops = {(leaf, leaf == tag) for leaf in checker[2]}
        for _ in range(2 * len(rows) + 2):
            for row in rows:
                for below in itertools.product(*[[held for held in (True, False) if (one, held) in tops] for one in row[1:]]):
                    tops.add((row[0], row[0] == tag or True in below))
        if any((top, True) in tops for top in checker[1]):
            found.append(tag)
    return tuple(found)


def is_leading(one, other, pairs):
    """[90], the pairs being pairs of tags."""
    names = dict(pairs)
    if len(names) < len(pairs) or list(pairs) != sorted(pairs) or any(old[0] != new[0] for old, new in pairs):
        return False
    if not set(names) <= set(tags_in(one)) or not set(names.values()) <= set(tags_in(other)):
        return False
    for index in (1, 2, 3):
        for text in one[index]:
            tags = tags_of_row(text)
            if set(tags) <= set(names) and ''.join(names[tag] for tag in tags) not in other[index]:
                return False
    return True


class GreatestTest(unittest.TestCase):
    def test_greatest(self):
        sizes = set()
        for machine in LIMITED:
            checker = greatest(machine)
            same(self, checker, greatest_of(machine))
            self.assertTrue(is_checker(checker))
            bundles = bundles_of(machine)
            same(self, tags_of(machine), tuple(sorted(bundles)))
            same(self, [bundle_of(machine, tag) for tag in sorted(bundles)], [bundles[tag] for tag in sorted(bundles)])
            sizes.add((machine[0], len(bundles)))
        self.assertTrue({(1, 0), (1, 3), (1, 7), (1, 8), (2, 0), (2, 3), (2, 4), (2, 6)} <= sizes, sizes)
        same(self, greatest(machine=EVEN), PARITY)
        same(self, tags_of(machine=EVEN), ('a0', 'a1', 'b0', 'b1'))
        same(self, bundle_of(machine=TWINS, tag='b1'), (0, 1))
        same(self, tags_of(GAP), ('a0', 'a1', 'a2', 'a3'))
        same(self, [bundle_of(GAP, tag) for tag in tags_of(GAP)], [(0, 1, 2), (0, 2), (1, 2), (2,)])

    def test_without_tags(self):
        same(self, greatest(NONE), (1, (), (), ()))
        same(self, greatest((2, 'b', 1, (0,), ((0,),), ())), (2, (), (), ()))
        same(self, tags_of(NONE), ())
        same(self, [tags_of(ONLY_A), tags_of(UNMET)], [('a0',), ('a0', 'b0')])
        same(self, greatest(ONLY_A), (1, ('a0',), ('a0',), ('a0a0',)))

    def test_over_the_limits(self):
        self.assertEqual([len(bundles_of(machine)) for machine in OVER], [9, 9, 10, 12, 10])
        for machine in OVER:
            same(self, greatest(machine), greatest_of(machine))
            self.assertIs(tells(greatest(machine), machine), True)
            same(self, useful(greatest(machine)), tags_of(machine))
            same(self, leading_tags(greatest(machine), machine), tuple((tag, tag) for tag in tags_of(machine)))

    def test_it_tells(self):
        """[89]"""
        for machine in LIMITED:
            checker = greatest(machine)
            self.assertIs(tells(checker, machine), True)
            same(self, useful(checker), tags_of(machine))
            for tree in CHANCE.sample(small_trees(machine[0], machine[1]), 12):
                self.assertEqual(noted(checker, tree) is not None, holds(machine, tree))
            for label in machine[1]:
                for bundle in some_bundles(met_with(machine, label))[1:]:
                    own = [tag for tag in tags_of(machine) if tag[0] == label and bundle_of(machine, tag) == bundle]
                    self.assertEqual(own != [], closing(machine, label, bundle) == bundle)

    def test_refused(self):
        for thing in ANY:
            if not ref_machine(thing):
                refuses(self, 'machine', greatest, thing)
                refuses(self, 'machine', tags_of, thing)
                refuses(self, 'machine', bundle_of, thing, None)
            if thing not in ('a0', 'a1', 'b0', 'b1'):
                refuses(self, 'tag', bundle_of, EVEN, thing)
        for tag in ('a2', 'b2', 'c0', 'a', 'a00', 'A0', ('a0',), ['a0'], 0):
            refuses(self, 'tag', bundle_of, EVEN, tag)


def pairs_within(one, other):
    """Some pairs of tags of the same label, of which each old one stands once."""
    news = tags_in(other)
    pairs = []
    for old in tags_in(one):
        fitting = [new for new in news if new[0] == old[0]]
        if fitting and CHANCE.random() < 0.8:
            pairs.append((old, CHANCE.choice(fitting)))
    return tuple(pairs)


def led_pairs(one, other):
    """Pairs that lead one into other, by taking away old tags from some pairs until they do."""
    pairs = pairs_within(one, other)
    while not is_leading(one, other, pairs):
        gone = CHANCE.choice(pairs)
        pairs = tuple(pair for pair in pairs if pair != gone)
    return pairs


class LeadingTest(unittest.TestCase):
    def test_useful(self):
        counts = set()
        for checker in CHECKERS:
            tags = used_tags(checker)
            same(self, useful(checker), tags)
            counts.add((len(tags), len(tags_in(checker)) - len(tags)))
        self.assertTrue(len(counts) > 12, counts)
        same(self, useful(checker=PARITY), ('a0', 'a1', 'b0', 'b1'))
        # a1 is let by no tree; over b1 only a0 can stand, which is no top.
        same(self, useful((1, ('a1', 'b0', 'b1'), ('b0', 'b1'), ('a0b1', 'a1a1'))), ('b0', 'b1'))
        same(self, useful((1, ('a1',), ('b0',), ('a1a1', 'a1a2', 'a2b1'))), ())
        same(self, useful((2, ('a1',), ('a0', 'a2'), ('a1a0a0', 'a1a2a3'))), ('a0', 'a1'))
        same(self, useful((1, ('c9',), ('c0',), ('c1c0', 'c2c1', 'c9c2'))), ('c0', 'c1', 'c2', 'c9'))

    def test_is_tag_leading(self):
        yes = 0
        for one in CHECKERS:
            for other in CHANCE.sample([other for other in CHECKERS if other[0] == one[0]], 3):
                for pairs in (pairs_within(one, other), led_pairs(one, other), ()):
                    told = is_leading(one, other, pairs)
                    self.assertIs(is_tag_leading(one, other, pairs), told)
                    yes += told and len(pairs) > 1
        self.assertTrue(yes > 40, yes)
        same(self, is_tag_leading(one=PARITY, other=PARITY, thing=()), True)

    def test_other_things_as_pairs(self):
        pair = ('a0', 'a0')
        for thing in ANY:
            if thing != ():
                self.assertIs(is_tag_leading(PARITY, PARITY, thing), False)
        for thing in ([pair], (list(pair),), ('a0a0',), (('a0', 'a0', 'a0'),), (('a0',),), (('a0', 'b0'),), (('a0', 'a2'),),
                      (('a2', 'a0'),), (('c0', 'c0'),), (pair, pair), (('b0', 'b0'), pair), (('a0', 'a0'), ('a0', 'a1')),
                      ((b'a0', 'a0'),), ((0, 'a0'),), ((None, 'a0'),), (('a0', 0),), (('', 'a0'),), (('a0', None),), (0, 0), (('a', 'a'),), (('A0', 'A0'),)):
            self.assertIs(is_tag_leading(PARITY, PARITY, thing), False, thing)
        self.assertIs(is_tag_leading(PARITY, PARITY, (pair,)), True)
        self.assertIs(is_tag_leading(PARITY, PARITY, (pair, ('b0', 'b0'))), True)

    def test_tags_of_others(self):
        # Nothing is asked of a2 and b0 but that they are tags of one and of other.
        one, other = (1, ('a1',), ('a1',), ('a1a2',)), (1, (), ('b0',), ())
        self.assertIs(is_tag_leading(one, one, (('a2', 'a1'),)), True)
        for pairs in ((('a2', 'a3'),), (('a3', 'a2'),), (('b0', 'b0'),)):
            self.assertIs(is_tag_leading(one, one, pairs), False)
        self.assertIs(is_tag_leading(one, other, (('a2', 'a2'),)), False)
        self.assertIs(is_tag_leading(other, other, (('b0', 'b0'),)), True)

    def test_tops_leaves_and_rows(self):
        one = (1, ('a0',), ('a1',), ('a0a1',))
        for less, pairs in (((1, (), ('a1',), ('a0a1',)), (('a0', 'a0'),)), ((1, ('a0',), (), ('a0a1',)), (('a1', 'a1'),)),
                            ((1, ('a0',), ('a1',), ()), (('a0', 'a0'), ('a1', 'a1')))):
            self.assertIs(is_tag_leading(one, one, pairs), True)
            self.assertIs(is_tag_leading(one, less, pairs), False)
        # A row with a tag that is no old one asks nothing.
        self.assertIs(is_tag_leading(one, (1, ('a0',), (), ()), (('a0', 'a0'),)), True)

    def test_leading_tags(self):
        several = 0
        for checker, machine in telling_pairs():
            pairs = leading_tags(checker, machine)
            self.assertTrue(is_leading(checker, greatest_of(machine), pairs))
            self.assertIs(is_tag_leading(checker, greatest(machine), pairs), True)
            same(self, tuple(old for old, _ in pairs), used_tags(checker))
            self.assertTrue(all(type(pair) is tuple for pair in pairs))
            several += len(pairs) > 2
        self.assertTrue(several > 20, several)
        same(self, leading_tags(checker=PARITY, machine=EVEN)[1], ('a1', 'a1'))
        same(self, leading_tags((1, (), (), ()), NONE), ())
        same(self, leading_tags((2, ('a0',), (), ()), (2, 'ab', 1, (0, 0), ((0,), (0,)), ())), ())

    def test_consequences(self):
        """[92]"""
        for one, other, third in [CHANCE.sample([other for other in CHECKERS if other[0] == many], 3) for many in (1, 2) * 25]:
            same(self, is_tag_leading(one, one, tuple((tag, tag) for tag in tags_in(one))), True)
            first = led_pairs(one, other)
            names = dict(led_pairs(other, third))
            if all(new in names for _, new in first):
                same(self, is_tag_leading(one, third, tuple((old, names[new]) for old, new in first)), True)
            used = {tag for tag in used_tags(one)}
            if used <= {old for old, _ in first}:
                for tree in small_trees(one[0], 'ab')[:80]:
                    self.assertTrue(noted(one, tree) is None or noted(other, tree) is not None)

    def test_refused(self):
        for thing in ANY:
            if not ref_checker(thing):
                refuses(self, 'checker', useful, thing)
                refuses(self, 'checker', leading_tags, thing, None)
                refuses(self, 'one', is_tag_leading, thing, None, None)
            if not ref_machine(thing) or thing[0] != 1:
                refuses(self, 'machine', leading_tags, PARITY, thing)
            if not ref_checker(thing) or thing[0] != 1:
                refuses(self, 'other', is_tag_leading, PARITY, thing, None)
        # What does not tell the machine comes behind what is no machine for it.
        refuses(self, 'machine', leading_tags, PARITY, TWINS)
        refuses(self, 'checker', leading_tags, PARITY, ALL)
        refuses(self, 'checker', leading_tags, (1, (), (), ()), EVEN)
        refuses(self, 'checker', leading_tags, (1, ('c0',), ('c0',), ()), NONE)
        refuses(self, 'checker', leading_tags, checker=PARITY, machine=(1, 'ab', 2, (1, 0), ((1, 0), (0, 1)), (1,)))


def telling_pairs():
    """Pairs of a checker and a machine that it tells: choices that are enough, also with other notes, and more tags."""
    found = []
    for machine in FEW:
        checker = greatest_of(machine)
        found.append((checker, machine))
        for tags in CHANCE.sample(some_bundles(sorted(bundles_of(machine))), min(4, 2 ** len(bundles_of(machine)))):
            less = chosen(checker, tags)
            if tells_by(less, machine):
                turn = lambda text: ''.join(sign if sign.isalpha() else '7350214698'[int(sign)] for sign in text)
                found.append((less, machine))
                found.append((less[0], *[tuple(sorted(turn(text) for text in texts)) for texts in less[1:]]))
                found[-1] = (found[-1], machine)
                # a9 stands nowhere below a top, nor does z0, whose label the machine lacks.
                found.append(((*less[:3], tuple(sorted({*less[3], 'a9' + less[0] * 'a9'}))), machine))
                rows = tuple(sorted({*less[3], 'z0' + less[0] * 'z0', *['z0' + less[0] * tag for tag in less[2][:1]]}))
                found.append(((*less[:2], tuple(sorted({*less[2], 'z0'})), rows), machine))
    return found


if __name__ == "__main__":
    unittest.main()
