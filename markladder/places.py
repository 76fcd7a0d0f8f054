"""Places of shapes and of trees."""

from markladder.checks import lot_of, need, need_place, need_tree, need_tree_place
from markladder.kinds import is_label, is_marking, is_one_of, is_shape, is_surrounding, is_tree
from markladder.nesting import children_in, depths_in, has_children, parents_in, part_end


def parent_of(many, shape, place):
    """The place of which this one is a child, None for the top."""
    need_place(many, shape, place)
    return parents_in(many, shape)[place]


def children_of(many, shape, place):
    """The tuple of the children of the place."""
    need_place(many, shape, place)
    return tuple(children_in(many, shape)[place])


def depth_of(many, shape, place):
    """How many steps lead down to the place from the top."""
    need_place(many, shape, place)
    return depths_in(many, shape)[place]


def height_of(many, shape, place):
    """The height of the place's part."""
    return max(depths_in(many, part_of(many, shape, place)))


def part_of(many, shape, place):
    """The shape of which the place is the top."""
    need_place(many, shape, place)
    return shape[place:part_end(many, shape, place)]


def labels_in(many, tree):
    """The labels of the tree as a string, ascending, each once."""
    need_tree(many, tree)
    return lot_of(tree.lower())


def label_at(many, tree, place):
    """The label of the place."""
    need_tree_place(many, tree, place)
    return tree[place].lower()


def tree_parent(many, tree, place):
    """The place of which this one is a child, None for the top."""
    need_tree_place(many, tree, place)
    return parents_in(many, tree)[place]


def tree_children(many, tree, place):
    """The tuple of the children of the place."""
    need_tree_place(many, tree, place)
    return tuple(children_in(many, tree)[place])


def tree_part(many, tree, place):
    """The tree of which the place is the top."""
    need_tree_place(many, tree, place)
    return tree[place:part_end(many, tree, place)]


def surrounding_of(many, tree, place):
    """What the tree becomes if the part of the place is replaced by the hole."""
    need_tree_place(many, tree, place)
    return tree[:place] + "_" + tree[part_end(many, tree, place):]


def put_in(many, surrounding, tree):
    """The tree put into the hole of the surrounding."""
    need(is_one_of(many, (1, 2)), "many")
    need(is_surrounding(many, surrounding), "surrounding")
    need(is_tree(many, tree), "tree")
    return surrounding.replace("_", tree)


def bare(tree):
    """The shape of a tree for 2."""
    need(is_tree(2, tree), "tree")
    return "".join(["+" if has_children(sign) else "." for sign in tree])


def dressed(shape, label):
    """The tree of this shape for 2 that has the label at all places."""
    need(is_shape(2, shape), "shape")
    need(is_label(label), "label")
    return labelled(shape, [label for _ in shape])


def read_as_tree(shape, marking):
    """The tree of this shape for 2 whose labels are the marks of a whole marking."""
    need(is_shape(2, shape), "shape")
    need(is_marking(marking) and len(marking) == len(shape) and "?" not in marking, "marking")
    return labelled(shape, marking)


def labelled(shape, labels):
    """The tree of this shape with these labels."""
    return "".join([label.upper() if has_children(sign) else label for sign, label in zip(shape, labels)])
