"""Whole numbers: what two of them share, and fractions in lowest terms."""


def shared_divisor(a, b):
    """The greatest number that divides both; both are 0 or more, and not both 0."""
    while b > 0:
        rest = a % b
        a = b
        b = rest
    return a


def shared_multiple(a, b):
    """The least number above 0 that both divide; both are above 0."""
    return a // shared_divisor(a, b) * b


def lowest(above, below):
    """The fraction above / below in lowest terms, as a list of two; 0 becomes [0, 1]."""
    divisor = shared_divisor(above, below)
    return [above // divisor, below // divisor]
