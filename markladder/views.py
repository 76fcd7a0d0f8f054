"""What a place sees within so many steps."""

from markladder.checks import need, need_shape
from markladder.bitmarks import is_bits
from markladder.kinds import is_index, is_number, is_one_of, is_tuple_of, nesting_fault
from markladder.nesting import children_in, parents_in, part_end


def is_view(many, thing):
    """Whether any value is a view by form."""
    if not is_one_of(many, (2, 3)) or not is_tuple_of(thing, 3):
        return False
    seen, bits, spot = thing
    if not isinstance(seen, str) or not isinstance(bits, str):
        return False
    signs = signs_of(seen)
    if nesting_fault(many, signs, "+", ".-_") is not None or signs[0] == "_" or len(bits) != len(signs):
        return False
    if not all([bit == "_" if sign == "_" else bit in "01" for bit, sign in zip(bits, signs)]):
        return False
    return is_index(spot, len(signs)) and signs[spot] != "_"


def view_of(many, shape, bits, place, steps):
    """The view of the place with so many steps."""
    need_shape(many, shape)
    need(is_bits(bits, len(shape)), "bits")
    need(is_index(place, len(shape)), "place")
    need(is_number(steps), "steps")
    highest, steps_to = steps_around(many, shape, place, steps)
    children = children_in(many, shape)
    signs = {}
    for spot in steps_to:
        near = [child for child in children[spot] if child in steps_to]
        signs[spot] = "." if children[spot] == [] else "-" if near == [] else "+"
        if near != []:
            signs.update({child: "_" for child in children[spot] if child not in near})
    seen = "".join([signs[spot] for spot in sorted(signs)])
    told = "".join(["_" if signs[spot] == "_" else bits[spot] for spot in sorted(signs)])
    return (seen if highest == 0 else "^" + seen, told, sorted(signs).index(place))


def signs_of(seen):
    """The signs of what is seen, without the one that says that something is above."""
    return seen[1:] if seen[:1] == "^" else seen


def steps_around(many, shape, place, steps):
    """The highest place that is seen from a place within so many steps, and how many steps lead to each one seen."""
    parents = parents_in(many, shape)
    steps_to = {place: 0}
    highest = place
    while parents[highest] is not None and steps_to[highest] < steps:
        steps_to[parents[highest]] = steps_to[highest] + 1
        highest = parents[highest]
    for spot in range(highest + 1, part_end(many, shape, highest)):
        if spot not in steps_to and steps_to.get(parents[spot], steps) < steps:
            steps_to[spot] = steps_to[parents[spot]] + 1
    return highest, steps_to
