"""What counts as an integer in this package."""


def is_integer_to(thing, most):
    """Whether any value is an integer from 0 to most."""
    # For Python a bool is an int, too; here it never is an integer.
    return isinstance(thing, int) and not isinstance(thing, bool) and 0 <= thing <= most
