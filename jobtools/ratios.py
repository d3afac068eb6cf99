"""Fractions in lowest terms."""


def greatest_divisor(one, other):
    greater = one
    lesser = other
    while lesser > 0:
        rest = greater % lesser
        greater = lesser
        lesser = rest
    return greater


def lowest_terms(above, below):
    """The fraction as the list of its two numbers; below is 1 at least, above 0 at least."""
    divisor = greatest_divisor(above, below)
    return [above // divisor, below // divisor]
