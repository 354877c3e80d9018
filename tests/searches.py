"""Searches through all ways, against which answers are held. A hide is (kind, thickness, area) here."""

import itertools


def ways_to_share(hides):
    """All ways to share the hides out into parts that aren't empty."""
    if not hides:
        yield []
        return
    for ways in ways_to_share(hides[1:]):
        yield [[hides[0]], *ways]
        for place, part in enumerate(ways):
            yield [*ways[:place], [hides[0], *part], *ways[place + 1:]]


def is_lot(part, tolerance, lot_size):
    """Whether the hides form a lot, from the greatest difference alone."""
    thicknesses = [thickness for _, thickness, _ in part]
    one_kind = len({kind for kind, _, _ in part}) == 1
    return len(part) <= lot_size and one_kind and max(thicknesses) - min(thicknesses) <= tolerance


def fewest_by_search(ways, tolerance, lot_size):
    """The fewest lots, from all ways to share the hides out."""
    return min(len(way) for way in ways if all(is_lot(part, tolerance, lot_size) for part in way))


def compatible(one, other, tolerance):
    """Whether two hides have one kind and differ by at most the tolerance."""
    return one[0] == other[0] and -tolerance <= one[1] - other[1] <= tolerance


def greatest_area(hides, tolerance, lot_size):
    """The greatest total area of a lot, from all lots."""
    parts = [part for count in range(1, lot_size + 1) for part in itertools.combinations(hides, count)]
    return max(sum(hide[2] for hide in part) for part in parts if is_lot(part, tolerance, lot_size))


def ways_to_pair(thicknesses):
    """The sums of the differences of all ways to pair an even number of thicknesses."""
    if not thicknesses:
        return [0]
    first, *others = thicknesses
    sums = []
    for place, other in enumerate(others):
        sums += [abs(first - other) + rest for rest in ways_to_pair(others[:place] + others[place + 1:])]
    return sums


def smallest_difference(thicknesses):
    """The smallest sum of differences, from all ways to pair the thicknesses, leaving out one if they are odd."""
    if len(thicknesses) % 2 == 0:
        return min(ways_to_pair(thicknesses))
    return min(smallest_without(thicknesses, place) for place in range(len(thicknesses)))


def smallest_without(thicknesses, place):
    """The smallest sum of differences without one of the thicknesses."""
    return min(ways_to_pair(thicknesses[:place] + thicknesses[place + 1:]))
