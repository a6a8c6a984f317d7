"""What several files ask of the values that they are handed."""


def is_integer(value):
    """Tell whether a value is an integer; a boolean is not one here."""
    return isinstance(value, int) and not isinstance(value, bool)


def is_between(value, low, high):
    """Tell whether a value is an integer from low to high."""
    return is_integer(value) and low <= value <= high


def is_number(value):
    """Tell whether a value has the form of a number that a maker gives: reading, mark and counter."""
    if not isinstance(value, tuple) or len(value) != 3:
        return False
    return all([is_integer(part) and part >= 0 for part in value])
