"""How the hides of one kind are paired."""

from matchedhides.lotting import numbers_in_order


def numbers_of_kind(hides, kind):
    """The numbers of the hides of this kind, in the hide order."""
    return [number for number in numbers_in_order(hides) if hides[number].kind == kind]


def leaving_over(numbers, place):
    """The numbers with the one at this place moved behind all others."""
    return numbers[:place] + numbers[place + 1:] + [numbers[place]]


def difference_of(hides, paired):
    """The sum of the differences in thickness, the first with the second, and so on; a last one alone has none."""
    difference = 0
    for place in range(1, len(paired), 2):
        difference += abs(hides[paired[place]].thickness - hides[paired[place - 1]].thickness)
    return difference


def paired_in_order(hides, kind):
    """The numbers of the hides of the best pairs, pair by pair; then the one that is left over, if there is one."""
    ordered = numbers_of_kind(hides, kind)
    if len(ordered) % 2 == 0:
        return ordered
    best = leaving_over(ordered, 0)
    for place in range(1, len(ordered)):
        other = leaving_over(ordered, place)
        # Of hides that leave equal sums the first one is left over.
        if difference_of(hides, other) < difference_of(hides, best):
            best = other
    return best
