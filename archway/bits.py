"""Sets of numbers as integers: the bit of each number that is in the set is 1."""


def bits_of(numbers):
    """Return the set with these numbers."""
    found = 0
    for number in numbers:
        found |= 1 << number
    return found


def is_among(number, bits):
    """Tell whether a number is in a set."""
    return (bits >> number) & 1 == 1


def numbers_of(bits):
    """Return the list of the numbers in a set, in ascending order."""
    found = []
    rest = bits
    while rest:
        lowest = rest & -rest
        found.append(lowest.bit_length() - 1)
        rest -= lowest
    return found
