"""The operations. Each takes the numbers of its call and gives back the numbers of its answer."""

from matchedhides.inventory import Hide, Inventory, area_of, hides_at
from matchedhides.limits import GREATEST_TOLERANCE, MOST_HIDES, check_kind, check_limits, check_measures
from matchedhides.lotting import hides_match, incompatible_in_order, lots_in_order, make_lot, numbers_in_order
from matchedhides.pairing import difference_of, paired_in_order
from matchedhides.refusals import NothingFound, OutsideLimits, TooManyHides
from matchedhides.runs import largest_of_lots


def create(request, numbers):
    """Begin an inventory without hides, in place of an existing one."""
    check_limits(numbers[0], numbers[1])
    request.inventory = Inventory(numbers[0], numbers[1])
    return [0]


def add_hide(inventory, numbers):
    """Add a hide and tell its number."""
    check_measures(numbers[0], numbers[1], numbers[2])
    number = len(inventory.hides)
    if number >= MOST_HIDES:
        raise TooManyHides()
    inventory.hides.append(Hide(numbers[0], numbers[1], numbers[2]))
    return [number]


def remove_hide(inventory, numbers):
    """Remove a hide and tell how many remain."""
    inventory.check_number(numbers[0])
    inventory.hides.pop(numbers[0])
    return [len(inventory.hides)]


def get_hide(inventory, numbers):
    """Tell the kind, the thickness and the area of a hide."""
    hide = inventory.hide_at(numbers[0])
    return [hide.kind, hide.thickness, hide.area]


def set_limits(inventory, numbers):
    """Set the limits of a lot and tell the previous ones."""
    check_limits(numbers[0], numbers[1])
    previous = [inventory.tolerance, inventory.lot_size]
    inventory.tolerance = numbers[0]
    inventory.lot_size = numbers[1]
    return [0] + previous


def thin_hide(inventory, numbers):
    """Make a hide thinner and tell its previous thickness."""
    hide = inventory.hide_at(numbers[0])
    previous = hide.thickness
    if numbers[1] < 1 or numbers[1] >= previous:
        raise OutsideLimits()
    hide.thickness = numbers[1]
    return [previous]


def hide_order(inventory, numbers):
    """Tell how many hides there are, and the hide order."""
    ordered = numbers_in_order(inventory.hides)
    return [len(ordered)] + ordered


def are_compatible(inventory, numbers):
    """Tell whether two hides are compatible."""
    one = inventory.hide_at(numbers[0])
    other = inventory.hide_at(numbers[1])
    return [1 if hides_match(one, other, inventory.tolerance) else 0]


def is_lot(inventory, numbers):
    """Tell whether the hides form a lot."""
    hides = inventory.different_hides(numbers)
    return [1 if make_lot(hides, inventory.tolerance, inventory.lot_size) else 0]


def lots_of(inventory, hides):
    """The greedy lots of these hides within the limits of the inventory."""
    return lots_in_order(hides, inventory.tolerance, inventory.lot_size)


def fewest_lots(inventory, numbers):
    """Tell the number of greedy lots, which are the fewest."""
    return [len(lots_of(inventory, inventory.hides))]


def greedy_lots(inventory, numbers):
    """Tell the greedy lots, each behind its number of hides."""
    lots = lots_of(inventory, inventory.hides)
    told = [len(lots)]
    for lot in lots:
        told.append(len(lot))
        told.extend(lot)
    return told


def incompatible_hides(inventory, numbers):
    """Tell the incompatible hides, as many as there are lots at least."""
    taken = incompatible_in_order(inventory.hides, inventory.tolerance)
    return [len(taken)] + taken


def largest_lot(inventory, numbers):
    """Tell the lot with the greatest area."""
    if not inventory.hides:
        raise NothingFound()
    lot = largest_of_lots(inventory.hides, inventory.tolerance, inventory.lot_size)
    return [area_of(hides_at(inventory.hides, lot)), len(lot)] + lot


def total_area(inventory, numbers):
    """Tell the sum of the areas of the hides."""
    return [area_of(inventory.different_hides(numbers))]


def best_pairs(inventory, numbers):
    """Tell the best pairs of a kind and the hide that is left over."""
    check_kind(numbers[0])
    paired = paired_in_order(inventory.hides, numbers[0])
    return [difference_of(inventory.hides, paired), len(paired) // 2] + paired


def least_tolerance(inventory, numbers):
    """Tell the smallest tolerance with which there would be at most so many lots."""
    for tolerance in range(GREATEST_TOLERANCE + 1):
        if len(lots_in_order(inventory.hides, tolerance, inventory.lot_size)) <= numbers[0]:
            return [tolerance]
    raise NothingFound()


def lots_without_hide(inventory, numbers):
    """Tell how many lots there would be without a hide."""
    inventory.check_number(numbers[0])
    others = inventory.hides[:numbers[0]] + inventory.hides[numbers[0] + 1:]
    return [len(lots_of(inventory, others))]


def lots_with_hide(inventory, numbers):
    """Tell how many lots there would be with an additional hide, for which there need be no room."""
    check_measures(numbers[0], numbers[1], numbers[2])
    hides = inventory.hides + [Hide(numbers[0], numbers[1], numbers[2])]
    return [len(lots_of(inventory, hides))]


def status(inventory, numbers):
    """Tell the number of hides, the limits and the area of all hides."""
    return [len(inventory.hides), inventory.tolerance, inventory.lot_size, area_of(inventory.hides)]


OPERATIONS = {
    1: add_hide,
    2: remove_hide,
    3: get_hide,
    4: set_limits,
    5: thin_hide,
    6: hide_order,
    7: are_compatible,
    8: is_lot,
    9: fewest_lots,
    10: greedy_lots,
    11: incompatible_hides,
    12: largest_lot,
    13: total_area,
    14: best_pairs,
    15: least_tolerance,
    16: lots_without_hide,
    17: lots_with_hide,
    18: status,
}


def result_of(request, operation, numbers):
    """Carry out the operation with this number, or refuse it."""
    if operation == 0:
        return create(request, numbers)
    # That there is an inventory is asked here, ahead of whatever the operation itself asks.
    inventory = request.existing_inventory()
    carry_out = OPERATIONS[operation]
    return carry_out(inventory, numbers)
