"""The checks of lengths and ranges that several files share."""

from hushlink.errors import OutOfRange


def need_length(items, least, most):
    """Raise OutOfRange unless the list has from least to most items."""
    if not least <= len(items) <= most:
        raise OutOfRange("a list does not have the required length")


def need_range(number, least, most):
    """Raise OutOfRange unless the number is from least to most."""
    if not least <= number <= most:
        raise OutOfRange("a number is not within its bounds")
