"""Places of shapes and trees ([23] to [25]), and changes of them ([27])."""

import random
import unittest

from markladder import places
from markladder.changes import grafted, pruned, relabelled, sprouted, tree_grafted, tree_pruned
from oracles import places_in, shapes_up_to, some_shape
from values import refuses, same


def some_tree(chance, many, forks):
    """A tree with so many places with children; for many 1 a row of labels."""
    shape = '+' * forks + '.' if many == 1 else some_shape(chance, 2, forks)
    labels = [chance.choice('abcz') for _ in shape]
    return ''.join(label.upper() if sign == '+' else label for sign, label in zip(shape, labels))


class ShapePlacesTest(unittest.TestCase):
    def check_shape(self, many, shape):
        for place, told in enumerate(places_in(many, shape)):
            same(self, places.parent_of(many, shape, place), told['parent'])
            same(self, places.children_of(many, shape, place), tuple(told['children']))
            same(self, places.depth_of(many, shape, place), told['depth'])
            same(self, places.height_of(many, shape, place), told['height'])
            same(self, places.part_of(many, shape, place), told['part'])

    def test_all_small_shapes(self):
        for many, size in ((2, 11), (3, 13)):
            for shape in shapes_up_to(many, size):
                self.check_shape(many, shape)

    def test_great_shapes(self):
        chance = random.Random(3)
        for many in (2, 3):
            self.check_shape(many, some_shape(chance, many, 40))
        comb = '+.' * 300 + '.'
        same(self, places.depth_of(2, comb, 600), 300)
        same(self, places.height_of(2, comb, 0), 300)
        same(self, places.parent_of(2, comb, 599), 598)

    def test_wrong_places(self):
        for name in ('parent_of', 'children_of', 'depth_of', 'height_of', 'part_of'):
            for place in (3, -1, True, '0', None, (0,)):
                refuses(self, 'place', vars(places)[name], 2, '+..', place)


class TreePlacesTest(unittest.TestCase):
    def test_by_definition(self):
        chance = random.Random(4)
        for many in (1, 2):
            for forks in (0, 1, 2, 3, 5, 9, 15):
                tree = some_tree(chance, many, forks)
                same(self, places.labels_in(many, tree), ''.join(sorted(set(tree.lower()))))
                for place, told in enumerate(places_in(many, tree)):
                    same(self, places.label_at(many, tree, place), tree[place].lower())
                    same(self, places.tree_parent(many, tree, place), told['parent'])
                    same(self, places.tree_children(many, tree, place), tuple(told['children']))
                    same(self, places.tree_part(many, tree, place), told['part'])
                    around = places.surrounding_of(many, tree, place)
                    same(self, around, tree[:place] + '_' + tree[place + len(told['part']):])
                    same(self, places.put_in(many, around, told['part']), tree)

    def test_plain(self):
        same(self, places.surrounding_of(1, 'ABa', 0), '_')
        same(self, places.surrounding_of(1, 'ABa', 1), 'A_')
        same(self, places.put_in(1, '_', 'ABa'), 'ABa')
        same(self, places.put_in(2, 'AB_ab', 'Cdd'), 'ABCddab')
        refuses(self, 'surrounding', places.put_in, 2, 'Aab', 'a')
        refuses(self, 'surrounding', places.put_in, 2, 'A__', 'a')
        refuses(self, 'tree', places.put_in, 1, 'A_', 'Aab')

    def test_shapes_of_trees(self):
        same(self, places.bare('q'), '.')
        same(self, places.dressed('.', 'q'), 'q')
        same(self, places.read_as_tree('.', 'q'), 'q')
        chance = random.Random(5)
        for shape in shapes_up_to(2, 9):
            marking = ''.join(chance.choice('abz') for _ in shape)
            tree = places.read_as_tree(shape, marking)
            same(self, (tree.lower(), places.bare(tree)), (marking, shape))
            same(self, places.dressed(shape, 'k'), places.read_as_tree(shape, 'k' * len(shape)))
        for marking in ('ab', 'abcd', 'a?c', '???', '', 'aBc', None, ['a', 'b', 'c']):
            refuses(self, 'marking', places.read_as_tree, '+..', marking)
        refuses(self, 'shape', places.dressed, '+...', 'a')
        refuses(self, 'tree', places.bare, 'Aa')


class ShapeChangesTest(unittest.TestCase):
    def test_all_small_shapes(self):
        for many in (2, 3):
            for shape in shapes_up_to(many, 10):
                for place, told in enumerate(places_in(many, shape)):
                    ahead, behind = shape[:place], shape[place + len(told['part']):]
                    same(self, grafted(many, shape, place, '+' + '.' * many), ahead + '+' + '.' * many + behind)
                    same(self, grafted(many, shape, place, told['part']), shape)
                    if shape[place] == '.':
                        grown = sprouted(many, shape, place)
                        same(self, grown, ahead + '+' + '.' * many + behind)
                        same(self, pruned(many, grown, place), shape)
                        refuses(self, 'place', pruned, many, shape, place)
                    else:
                        same(self, pruned(many, shape, place), ahead + '.' + behind)
                        refuses(self, 'place', sprouted, many, shape, place)

    def test_wrong_late(self):
        refuses(self, 'late', grafted, 2, '+..', 1, '+...')
        refuses(self, 'late', grafted, 3, '+...', 1, '')
        refuses(self, 'place', grafted, 2, '+..', 3, '+...')


class TreeChangesTest(unittest.TestCase):
    def test_by_definition(self):
        chance = random.Random(6)
        for many in (1, 2):
            for forks in (0, 1, 2, 4, 8):
                tree = some_tree(chance, many, forks)
                for place, told in enumerate(places_in(many, tree)):
                    ahead, behind = tree[:place], tree[place + len(told['part']):]
                    same(self, tree_pruned(many, tree, place), ahead + tree[place].lower() + behind)
                    late = some_tree(chance, many, 2)
                    same(self, tree_grafted(many, tree, place, late), ahead + late + behind)
                    sign = 'Q' if tree[place].isupper() else 'q'
                    same(self, relabelled(many, tree, place, 'q'), ahead + sign + tree[place + 1:])

    def test_wrong_values(self):
        refuses(self, 'late', tree_grafted, 1, 'Aa', 1, 'Aab')
        refuses(self, 'place', tree_grafted, 1, 'Aa', 2, 'Aab')
        refuses(self, 'label', relabelled, 1, 'Aa', 1, 'B')
        refuses(self, 'label', relabelled, 1, 'Aa', 1, '')
        refuses(self, 'place', tree_pruned, 1, 'Aa', True)


if __name__ == "__main__":
    unittest.main()
