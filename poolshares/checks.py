"""What counts as an integer and as a pair in this package."""


def is_integer(thing):
    """Whether any value is an integer."""
    # For Python a bool is an int, too; here it never is an integer.
    return isinstance(thing, int) and not isinstance(thing, bool)


def is_integer_to(thing, most):
    """Whether any value is an integer from 0 to most."""
    return is_integer(thing) and 0 <= thing <= most


def is_pair(thing):
    """Whether any value is a tuple of two parts."""
    return isinstance(thing, tuple) and len(thing) == 2
