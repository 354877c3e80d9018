"""What the arguments are held to."""

from matchedhides.refusals import OutsideLimits

GREATEST_KIND = 2
GREATEST_THICKNESS = 60
GREATEST_AREA = 60
GREATEST_TOLERANCE = 60
GREATEST_LOT_SIZE = 12
MOST_HIDES = 12


def check_limits(tolerance, lot_size):
    """Refuse a tolerance or a lot size that an inventory can't have."""
    if tolerance > GREATEST_TOLERANCE:
        raise OutsideLimits()
    if lot_size < 1 or lot_size > GREATEST_LOT_SIZE:
        raise OutsideLimits()


def check_kind(kind):
    """Refuse a kind that a hide can't have."""
    if kind > GREATEST_KIND:
        raise OutsideLimits()


def check_measures(kind, thickness, area):
    """Refuse a kind, a thickness or an area that a hide can't have."""
    check_kind(kind)
    if thickness < 1 or thickness > GREATEST_THICKNESS:
        raise OutsideLimits()
    if area < 1 or area > GREATEST_AREA:
        raise OutsideLimits()
