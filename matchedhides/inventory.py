"""What a request holds: an inventory, once one is created, and its hides."""

from matchedhides.refusals import NoInventory, NoSuchHide, OutsideLimits


class Hide:
    """One hide."""

    def __init__(self, kind, thickness, area):
        self.kind = kind
        self.thickness = thickness
        self.area = area


def hides_at(hides, numbers):
    """The hides with these numbers."""
    return [hides[number] for number in numbers]


def area_of(hides):
    """The total area of the hides."""
    return sum([hide.area for hide in hides])


class Inventory:
    """The hides, in the order of their numbers, and the limits of a lot."""

    def __init__(self, tolerance, lot_size):
        self.tolerance = tolerance
        self.lot_size = lot_size
        self.hides = []

    def check_number(self, number):
        """Refuse the number of a hide that doesn't exist."""
        if number >= len(self.hides):
            raise NoSuchHide()

    def hide_at(self, number):
        """The hide with this number."""
        self.check_number(number)
        return self.hides[number]

    def different_hides(self, numbers):
        """The hides with these numbers, none of them twice."""
        if len(set(numbers)) < len(numbers):
            raise OutsideLimits()
        for number in numbers:
            # In a list, a hide that doesn't exist is an argument outside its limits.
            if number >= len(self.hides):
                raise OutsideLimits()
        return hides_at(self.hides, numbers)


class Request:
    """The state of one request, which begins without an inventory."""

    def __init__(self):
        self.inventory = None

    def existing_inventory(self):
        """The inventory, or a refusal where there is none."""
        if self.inventory is None:
            raise NoInventory()
        return self.inventory
