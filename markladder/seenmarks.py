"""The mark that a place tells by its view."""

from markladder.beacons import period_for, readable_in, regions_by
from markladder.bitmarks import region_marking, table_width, told_marks
from markladder.checks import need
from markladder.kinds import is_number, is_table
from markladder.nesting import depths_in, parents_in
from markladder.views import is_view, signs_of


def mark_seen(table, view, gap):
    """The mark that a place tells by its view."""
    need(is_table(table), "table")
    need(is_view(table[0], view), "view")
    need(is_number(gap), "gap")
    mark = mark_by_view(table, view, gap)
    need(mark is not None, "view")
    return mark


def mark_by_view(table, view, gap):
    """The mark that a place tells by its view, None if it tells none."""
    seen, bits, spot = view
    signs = signs_of(seen)
    parents = parents_in(table[0], signs)
    depths = depths_in(table[0], signs)
    width = table_width(table)
    period = period_for(width, gap)
    above = depth_above(parents, depths, view, period)
    if above is None:
        return None
    turns = [(depth + above) % period for depth in depths]
    layout = (parents, turns, readable_in(parents, turns, width))
    told = told_marks(table, layout, bits)
    top = top_over(parents, told, spot)
    region = (top, dict(regions_by(parents, layout[2]))[top])
    if (seen != signs and top not in told) or not is_whole(signs, told, region):
        return None
    marking = region_marking(table, signs, told, region)
    return None if marking is None else marking[region[1].index(spot)]


def depth_above(parents, depths, view, period):
    """How deep the first place that is seen stands, but for whole periods; None if this cannot be told.

    Below a place with the bit 1 there is one with this bit, too, only if these are at turns 0 and 1.
    """
    seen, bits, spot = view
    if seen == signs_of(seen):
        return 0
    place = spot
    while parents[place] is not None:
        if bits[place] == "1" and bits[parents[place]] == "1":
            return -depths[parents[place]] % period
        place = parents[place]
    return None


def top_over(parents, told, spot):
    """The top of the region of which the place is neither an end nor below one: the nearest one above, or itself."""
    place = spot
    while place not in told and parents[place] is not None:
        place = parents[place]
    return place


def is_whole(signs, told, region):
    """Whether all of a region is seen, and its readable beacons have marks."""
    _, places = region
    if any([place in told and told[place] is None for place in places]):
        return False
    return all([signs[place] in "+." for place in places])
