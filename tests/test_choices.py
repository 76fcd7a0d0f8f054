"""Choices that are enough, and how few tags are ([93] to [96])."""

import random
import unittest
from unittest import mock

from markladder import fewest
from markladder.choices import is_enough, least_choices, with_choice
from markladder.fewest import fewest_in_all, fewest_notes, numbers_enough
from markladder.greatest import greatest, tags_of
from markladder.kinds import is_checker
from markladder.telling import tells
from closures import LIMITED, OVER, bundles_of, chosen, greatest_of, some_bundles, tags_of_row, tells_by
from machines import ALL, GAP, MIX, NONE, ONLY_A, RAFT, least_trees
from values import ANY, EVEN, ref_machine, ref_set, refuses, same

CHANCE = random.Random(190)
FEW = [machine for machine in LIMITED if len(bundles_of(machine)) <= 6] + [RAFT, MIX]


def enough_choices(machine):
    """All choices that are enough."""
    checker = greatest_of(machine)
    return [tags for tags in some_bundles(sorted(bundles_of(machine))) if tells_by(chosen(checker, tags), machine)]


ENOUGH = [(machine, enough_choices(machine)) for machine in FEW]


def numbers_of(machine, tags):
    return tuple(sum(tag[0] == label for tag in tags) for label in machine[1])


class ChoicesTest(unittest.TestCase):
    def test_with_choice(self):
        for machine, enough in ENOUGH:
            choices = some_bundles(sorted(bundles_of(machine)))
            for tags in CHANCE.sample(choices, min(len(choices), 12)) + [()]:
                checker = with_choice(machine, tags)
                same(self, checker, chosen(greatest_of(machine), tags))
                self.assertTrue(is_checker(checker))
                self.assertIs(is_enough(machine, tags), tags in enough)
            same(self, with_choice(machine, tags_of(machine)), greatest(machine))
        same(self, with_choice(machine=GAP, tags=('a1', 'a2')), (1, ('a1',), ('a1',), ('a1a2', 'a2a1', 'a2a2')))
        same(self, with_choice(EVEN, ()), (1, (), (), ()))

    def test_is_enough(self):
        same(self, is_enough(machine=GAP, tags=('a0', 'a1', 'a3')), False)
        same(self, is_enough(GAP, ('a1', 'a2')), True)
        same(self, [is_enough(EVEN, PARITY_TAGS), is_enough(EVEN, PARITY_TAGS[1:]), is_enough(EVEN, ())], [True, False, False])

    def test_least_choices(self):
        several = 0
        for machine, enough in ENOUGH:
            least = [tags for tags in enough if not any(set(less) < set(tags) for less in enough)]
            same(self, least_choices(machine), tuple(sorted(least)))
            several += len(least) > 1
        self.assertTrue(several > 2, several)
        same(self, least_choices(machine=EVEN), (PARITY_TAGS,))
        same(self, [least_choices(NONE), least_choices(ALL), least_choices(ONLY_A)], [((),), (('a0', 'b0'),), (('a0',),)])

    def test_eight_tags(self):
        """As many tags as the limits let, and more: no tag can go, and none of the choices lies within another one."""
        great = [machine for machine in LIMITED if len(bundles_of(machine)) > 6] + OVER[:3]
        self.assertTrue(len(great) > 9)
        for machine in great:
            least = least_choices(machine)
            self.assertTrue(least != () and list(least) == sorted(set(least)))
            checker = greatest_of(machine)
            for tags in least:
                self.assertTrue(tells_by(chosen(checker, tags), machine))
                for tag in tags:
                    self.assertFalse(tells_by(chosen(checker, [one for one in tags if one != tag]), machine))
            for tags in CHANCE.sample(some_bundles(sorted(bundles_of(machine))), 25):
                if tells_by(chosen(checker, tags), machine):
                    self.assertTrue(any(set(less) <= set(tags) for less in least))

    def test_refused(self):
        for thing in ANY:
            if not ref_machine(thing):
                for function in (least_choices, fewest_notes, fewest_in_all, numbers_enough):
                    refuses(self, 'machine', function, thing)
                for function in (with_choice, is_enough):
                    refuses(self, 'machine', function, thing, None)
            if not ref_set(thing, lambda tag: tag in PARITY_TAGS):
                for function in (with_choice, is_enough):
                    refuses(self, 'tags', function, EVEN, thing)
        for tags in (('a2',), ('c0',), ('b0', 'a0'), ('a0', 'a0'), ['a0'], 'a0', ('a0', 'b2'), (('a0',),), ('a0', None)):
            refuses(self, 'tags', with_choice, EVEN, tags)
            refuses(self, 'tags', is_enough, machine=EVEN, tags=tags)
        refuses(self, 'tags', with_choice, NONE, ('a0',))


PARITY_TAGS = ('a0', 'a1', 'b0', 'b1')


class FewestTest(unittest.TestCase):
    def test_fewest(self):
        unlike = 0
        for machine, enough in ENOUGH:
            same(self, fewest_notes(machine), min(max(numbers_of(machine, tags)) for tags in enough))
            same(self, fewest_in_all(machine), min((len(tags), tags) for tags in enough))
            numbers = {numbers_of(machine, tags) for tags in enough}
            least = [some for some in numbers if not any(less != some and all(x <= y for x, y in zip(less, some))
                                                         for less in numbers)]
            same(self, numbers_enough(machine), tuple(sorted(least)))
            unlike += len({tags for tags in enough if len(tags) == fewest_in_all(machine)[0]}) > 1
        self.assertTrue(unlike > 2, unlike)
        same(self, fewest_in_all(machine=GAP), (2, ('a1', 'a2')))
        same(self, fewest_notes(machine=GAP), 2)
        same(self, numbers_enough(machine=EVEN), ((2, 2),))
        same(self, numbers_enough(MIX), ((4,),))
        same(self, [numbers_enough(ONLY_A), fewest_notes(ONLY_A), fewest_in_all(ONLY_A)], [((1, 0),), 1, (1, ('a0',))])
        same(self, [numbers_enough(NONE), fewest_notes(NONE), fewest_in_all(NONE)], [((0, 0),), 0, (0, ())])
        same(self, [fewest_notes(RAFT), numbers_enough(RAFT)], [3, ((3, 3),)])

    def test_several_numbers(self):
        # No small machine is known by which fewer tags with one label ask for more with another one.
        told = (('a0', 'a1', 'b0'), ('a0', 'b0', 'b1', 'b2'), ('a1', 'b1', 'b2'), ('a2', 'b0', 'b3'), ('a0', 'a1', 'a2'))
        with mock.patch.object(fewest, 'least_choices', lambda machine: told):
            same(self, numbers_enough(EVEN), ((1, 2), (2, 1), (3, 0)))
            same(self, fewest_notes(EVEN), 2)
            same(self, fewest_in_all(EVEN), (3, ('a0', 'a1', 'a2')))

    def test_consequences(self):
        """[96]"""
        for machine, enough in ENOUGH:
            standings = least_trees(machine)
            self.assertEqual(() in enough, not any(standing in machine[5] for standing in standings))
            same(self, is_enough(machine, ()), () in enough)
            for checker in tellers(machine, enough):
                same(self, tells(checker, machine), True)
                tags = {tag for text in [*checker[1], *checker[2], *checker[3]] for tag in tags_of_row(text)}
                told = numbers_of(machine, tags)
                self.assertTrue(any(all(x <= y for x, y in zip(some, told)) for some in numbers_enough(machine)))


def tellers(machine, enough):
    """Checkers that tell the machine, found by taking rows from choices that are enough, as long as some can go."""
    found = []
    for tags in CHANCE.sample(enough, min(len(enough), 3)):
        checker = chosen(greatest_of(machine), tags)
        for row in CHANCE.sample(checker[3], min(len(checker[3]), 20)):
            less = (*checker[:3], tuple(one for one in checker[3] if one != row))
            if tells_by(less, machine):
                checker = less
        found.append(checker)
    return found


if __name__ == "__main__":
    unittest.main()
