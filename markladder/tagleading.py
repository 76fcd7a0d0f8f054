"""Tags that are of use, and pairs of tags by which one checker is led into another one."""

from markladder.bundles import closing, lies_in
from markladder.checks import need
from markladder.greatest import bundles_by_tag
from markladder.kinds import ascends, is_checker, is_tag, is_tuple_of, row_tags, tags_in
from markladder.telling import tells
from markladder.terms import leaf_of, steps_over


def useful(checker):
    """The set of the tags that some place has by right notes of some tree."""
    need(is_checker(checker), "checker")
    let = tags_let_somewhere(checker)
    rows = [row_tags(row) for row in checker[3] if lies_in(row_tags(row), let)]
    found = {}
    waiting = [tag for tag in checker[1] if tag in let]
    while len(waiting) > 0:
        tag = waiting.pop()
        if tag not in found:
            found[tag] = True
            waiting.extend([child for tags in rows if tags[0] == tag for child in tags[1:]])
    return tuple(sorted(found))


def leading_tags(checker, machine):
    """Pairs by which the checker is led into the greatest checker of the machine that it tells."""
    need(tells(checker, machine), "checker")
    notes = {(tag[0], bundle): tag for tag, bundle in bundles_by_tag(machine).items()}
    standings = standings_by_tag(checker, machine)
    pairs = []
    for tag in useful(checker):
        # In a tree with right notes any part whose top has this tag may stand, so one surrounding lets all of these.
        pairs.append((tag, notes[tag[0], closing(machine, tag[0], standings[tag])]))
    return tuple(pairs)


def is_tag_leading(one, other, thing):
    """Whether any value is pairs of tags by which one is led into other."""
    need(is_checker(one), "one")
    need(is_checker(other) and other[0] == one[0], "other")
    if not are_tag_pairs(thing, tags_in(one), tags_in(other)):
        return False
    names = {old: new for old, new in thing}
    _, tops, leaves, rows = other
    return (all([names[tag] in tops for tag in one[1] if tag in names])
            and all([names[tag] in leaves for tag in one[2] if tag in names])
            and all([row_by_names(row, names) in rows for row in one[3] if has_names(row, names)]))


def tags_let_somewhere(checker):
    """The list of the tags that the top of some tree has by notes that let each part, though perhaps not the whole."""
    let = []
    rows = [row_tags(row) for row in checker[3]]
    more = list(checker[2])
    while len(more) > 0:
        let.extend(more)
        more = [tags[0] for tags in rows if tags[0] not in let and lies_in(tags[1:], let)]
    return let


def standings_by_tag(checker, machine):
    """For each tag the set of the standings of the trees of the machine's labels whose top can have it."""
    standings = {tag: () for tag in tags_in(checker)}
    wider = {tag: (leaf_of(machine, tag[0]),) for tag in checker[2] if tag[0] in machine[1]}
    while wider != {}:
        standings.update(wider)
        wider = {}
        for tag, *below in [row_tags(row) for row in checker[3] if row[0] in machine[1]]:
            told = steps_over(machine, tag[0], [standings[one] for one in below])
            if not lies_in(told, standings[tag]):
                wider[tag] = tuple(sorted(set([*wider.get(tag, standings[tag]), *told])))
    return standings


def are_tag_pairs(thing, olds, news):
    """Whether any value is a tuple of pairs of one of olds and one of news, each old tag once, ascending."""
    if not isinstance(thing, tuple) or not all([is_tag_pair(pair) for pair in thing]):
        return False
    known = all([old in olds and new in news for old, new in thing])
    return known and ascends([old for old, _ in thing])


def is_tag_pair(thing):
    """Whether any value is a pair of tags of the same label."""
    return is_tuple_of(thing, 2) and is_tag(thing[0]) and is_tag(thing[1]) and thing[0][0] == thing[1][0]


def has_names(row, names):
    """Whether all tags of the row have a new name."""
    return all([tag in names for tag in row_tags(row)])


def row_by_names(row, names):
    """The row with the new names of its tags."""
    return "".join([names[tag] for tag in row_tags(row)])
