"""What several modules ask of numbers and signs."""

WATER = "~"

# In ascending order, which is also the order that a text of signs must have.
LAND_SIGNS = ".ABCDEFGHIJKLMNOPQRSTUVWXYZ"
ALL_SIGNS = ".ABCDEFGHIJKLMNOPQRSTUVWXYZ~"


def in_range(value, least, most):
    """Whether a value is an integer, and no boolean, from least to most."""
    return isinstance(value, int) and not isinstance(value, bool) and least <= value <= most


def ascending_numbers(numbers, least, most):
    """Whether there is at least one number, all are from least to most, and they ascend."""
    if len(numbers) == 0 or not all([in_range(number, least, most) for number in numbers]):
        return False
    return all([one < other for one, other in zip(numbers, numbers[1:])])


def ascending_signs(text, allowed):
    """Whether there is at least one sign, all are among those allowed, and they ascend."""
    return text != "" and text == "".join([sign for sign in allowed if sign in text])
