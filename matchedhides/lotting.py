"""How hides are ordered, matched and put into lots."""

from matchedhides.inventory import hides_at


def numbers_in_order(hides):
    """The numbers of the hides in the hide order."""

    def rank(number):
        hide = hides[number]
        return (hide.kind, hide.thickness, number)

    return sorted(range(len(hides)), key=rank)


def hides_match(one, other, tolerance):
    """Whether two hides are compatible."""
    return one.kind == other.kind and abs(one.thickness - other.thickness) <= tolerance


def any_two_match(hides, tolerance):
    """Whether any two of these hides are compatible."""
    for place, one in enumerate(hides):
        for other in hides[:place]:
            if not hides_match(one, other, tolerance):
                return False
    return True


def make_lot(hides, tolerance, lot_size):
    """Whether these hides form a lot."""
    return len(hides) <= lot_size and any_two_match(hides, tolerance)


def lots_in_order(hides, tolerance, lot_size):
    """The greedy lots, each a list of the numbers of its hides."""
    lots = []
    for number in numbers_in_order(hides):
        if lots and make_lot(hides_at(hides, lots[-1] + [number]), tolerance, lot_size):
            lots[-1].append(number)
        else:
            lots.append([number])
    return lots


def incompatible_in_order(hides, tolerance):
    """The numbers of the incompatible hides, in the order in which they are taken."""
    taken = []
    for number in numbers_in_order(hides):
        if not taken or not hides_match(hides[taken[-1]], hides[number], tolerance):
            taken.append(number)
    return taken
