"""Sets of numbers or places, kept as integers: bit n stands for n."""


def bit_places(bits):
    """The numbers that the bits stand for, ascending."""
    found = []
    while bits:
        lowest = bits & -bits
        found.append(lowest.bit_length() - 1)
        bits = bits ^ lowest
    return found


def bits_from(least, most):
    """The bits of the numbers from least to most; none if most is least - 1."""
    return (2 << most) - (1 << least)
