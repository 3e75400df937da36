"""What is sure to be printed of a value that is known but for an error."""

from cranktables.fractions import check_fraction, check_within, less, plus
from cranktables.printing import printed


def sure(value, error, base, places):
    """The text of all fractions no further than the error from the value; None where two are printed unlike."""
    check_fraction(value)
    check_within(error)
    # Rounding keeps the order, so what lies between two that are printed alike is printed like them.
    least = printed(less(value, error), base, places)
    greatest = printed(plus(value, error), base, places)
    return least if least == greatest else None
