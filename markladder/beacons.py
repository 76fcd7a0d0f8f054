"""Turns of places, beacons and their regions, and bits that tell codes; nothing is checked here."""

from markladder.nesting import depths_in


def width_for(size):
    """The least number of bits with which so many codes can be told."""
    width = 0
    codes = 1
    while codes < size:
        width = width + 1
        codes = codes * 2
    return width


def code_in(index, width):
    """The number written in so many bits, the highest first."""
    bits = ""
    for _ in range(width):
        bits = str(index % 2) + bits
        index = index // 2
    return bits


def period_for(width, gap):
    """The period by a width and a gap."""
    return 2 * width + 3 + gap


def turns_in(many, text, width, gap):
    """The list of the turns of all places."""
    return [depth % period_for(width, gap) for depth in depths_in(many, text)]


def code_spot(turn, width):
    """Which bit of a code stands at this turn, None if none does."""
    if turn % 2 == 0 or turn < 3 or turn > 2 * width + 1:
        return None
    return (turn - 3) // 2


def nearest_above(parents, chosen):
    """For each place the nearest place above, or itself, for which chosen holds; None without any."""
    nearest = []
    for place, parent in enumerate(parents):
        above = None if parent is None else nearest[parent]
        nearest.append(place if chosen[place] else above)
    return nearest


def heights_in(parents):
    """The list of the heights of the parts of all places."""
    heights = [0 for _ in parents]
    for place in reversed(range(1, len(parents))):
        heights[parents[place]] = max(heights[parents[place]], heights[place] + 1)
    return heights


def readable_in(parents, turns, width):
    """The list of the readable beacons."""
    heights = heights_in(parents)
    return [place for place, turn in enumerate(turns) if turn == 0 and heights[place] > 2 * width]


def regions_by(parents, readable):
    """The list of the pairs (top, places) of the regions, ascending by their tops."""
    is_top = [place == 0 or place in readable for place in range(len(parents))]
    nearest = nearest_above(parents, is_top)
    places = {place: [] for place, chosen in enumerate(is_top) if chosen}
    for place, parent in enumerate(parents):
        if parent is not None:
            places[nearest[parent]].append(place)
    return [(top, (top, *places[top])) for top in places]


def bits_by_codes(parents, turns, codes, width):
    """The bits for these turns, codes telling the code of each beacon."""
    nearest = nearest_above(parents, [turn == 0 for turn in turns])
    bits = []
    for place, turn in enumerate(turns):
        spot = code_spot(turn, width)
        if spot is None:
            bits.append("1" if turn < 2 else "0")
        else:
            bits.append(codes[nearest[place]][spot])
    return "".join(bits)


def codes_told(parents, turns, bits, readable, width):
    """For each readable beacon the first bits at the turns of codes of which it is the nearest beacon above."""
    nearest = nearest_above(parents, [turn == 0 for turn in turns])
    told = {beacon: {} for beacon in readable}
    for place, turn in enumerate(turns):
        spot = code_spot(turn, width)
        if spot is not None and nearest[place] in told:
            told[nearest[place]].setdefault(spot, bits[place])
    return {beacon: "".join([told[beacon][index] for index in range(width)]) for beacon in readable}
