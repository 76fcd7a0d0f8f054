"""Notes of trees by checkers: which places cry, and all right notes that agree with some."""

from markladder.checks import need
from markladder.kinds import is_checker, is_notes, is_tree, row_tags
from markladder.nesting import children_in


def crying(checker, tree, notes):
    """The tuple of the places that cry."""
    need_noting(checker, tree)
    need(is_whole_notes(tree, notes), "notes")
    return cries(checker, tree, notes)


def is_noted(checker, tree, thing):
    """Whether any value is right notes for the tree."""
    need_noting(checker, tree)
    return is_whole_notes(tree, thing) and cries(checker, tree, thing) == ()


def noted(checker, tree, notes=None):
    """The least right notes for the tree that have the digits that notes have, None if there are none."""
    need_noting(checker, tree)
    need(notes is None or (is_notes(notes) and len(notes) == len(tree)), "notes")
    agreeing = ["0123456789" if notes is None or notes[place] == "?" else notes[place] for place in range(len(tree))]
    found = tags_let(checker, tree, agreeing)
    tops = [tag for tag in sorted(found[0]) if tag in checker[1]]
    if tops == []:
        return None
    tags = {0: tops[0]}
    for place, children in enumerate(children_in(checker[0], tree)):
        if children != []:
            # All tags of one row are told together; the first tags of the children decide, then the second ones.
            rows = [row_tags(row)[1:] for row in checker[3] if row[:2] == tags[place]]
            least = min([row for row in rows if fits(row, [found[child] for child in children])])
            tags.update({child: tag for child, tag in zip(children, least)})
    return "".join([tags[place][1] for place in range(len(tree))])


def count_noted(checker, tree):
    """How many right notes the tree has."""
    need_noting(checker, tree)
    found = tags_let(checker, tree, ["0123456789" for _ in tree])
    return sum([found[0][tag] for tag in found[0] if tag in checker[1]])


def tops_of_notes(checker, tree):
    """The set of the tags of the top by which no place cries but perhaps the top, for its tag is not in tops."""
    need_noting(checker, tree)
    return tuple(sorted(tags_let(checker, tree, ["0123456789" for _ in tree])[0]))


def need_noting(checker, tree):
    """Refuses what is no checker, and no tree for its many."""
    need(is_checker(checker), "checker")
    need(is_tree(checker[0], tree), "tree")


def is_whole_notes(tree, thing):
    """Whether any value is whole notes for the tree."""
    return is_notes(thing) and len(thing) == len(tree) and "?" not in thing


def cries(checker, tree, notes):
    """The tuple of the places that cry by whole notes."""
    many, tops, leaves, rows = checker
    tags = [sign.lower() + note for sign, note in zip(tree, notes)]
    found = []
    for place, children in enumerate(children_in(many, tree)):
        row = "".join([tags[spot] for spot in [place, *children]])
        let = row in leaves if children == [] else row in rows
        if not let or (place == 0 and tags[0] not in tops):
            found.append(place)
    return tuple(found)


def tags_let(checker, tree, digits):
    """For each place a dict of its tags by notes that let its part: in how many ways each tag comes.

    Each place has one of the digits told for it.
    """
    many, _, leaves, rows = checker
    children = children_in(many, tree)
    found = [{} for _ in tree]
    for place in reversed(range(len(tree))):
        if children[place] == []:
            ways = {tag: 1 for tag in leaves}
        else:
            ways = ways_over(rows, [found[child] for child in children[place]])
        found[place] = {tag: ways[tag] for tag in ways
                        if tag[0] == tree[place].lower() and tag[1] in digits[place] and ways[tag] > 0}
    return found


def ways_over(rows, found):
    """For each first tag of a row in how many ways it stands over children, found telling this of their tags."""
    ways = {}
    for row in rows:
        tag, *below = row_tags(row)
        number = 1
        for child, told in zip(below, found):
            number = number * told.get(child, 0)
        ways[tag] = ways.get(tag, 0) + number
    return ways


def fits(row, found):
    """Whether each tag of a row is among those of the child with its index."""
    return all([tag in told for tag, told in zip(row, found)])
