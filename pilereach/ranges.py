"""Numbers that must be those of things that exist."""


def is_below(number, many):
    """Tell whether it is one of so many numbers, counted from 0."""
    return 0 <= number and number < many
