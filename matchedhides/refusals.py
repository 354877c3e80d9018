"""The refusals: one error class for each error code."""


class NoInventory(Exception):
    """There is no inventory."""


class NoSuchHide(Exception):
    """The hide doesn't exist."""


class OutsideLimits(Exception):
    """An argument is outside its limits."""


class TooManyHides(Exception):
    """The inventory has no room for another hide."""


class NothingFound(Exception):
    """There are no hides, or no tolerance is sufficient."""
