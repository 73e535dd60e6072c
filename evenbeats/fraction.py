"""Fractions: tuples of what's above, which may be below 0, and what's below, which is 1 or more."""


def greatest_divisor(first, second):
    """The greatest whole number that divides both; the second is above 0."""
    while second > 0:
        rest = first % second
        first = second
        second = rest
    return first


def lowest_terms(fraction):
    """The same fraction, with the least numbers."""
    divisor = greatest_divisor(fraction[0], fraction[1])
    return (fraction[0] // divisor, fraction[1] // divisor)


def is_less(one, other):
    """Whether the one fraction is below the other."""
    return one[0] * other[1] < other[0] * one[1]


def greater(one, other):
    """The greater of two fractions."""
    if is_less(one, other):
        return other
    return one


def lesser(one, other):
    """The lesser of two fractions."""
    if is_less(other, one):
        return other
    return one


def divided_down(number, fraction):
    """The greatest whole number that isn't above the number by the fraction, which is above 0."""
    return number * fraction[1] // fraction[0]


def divided_up(number, fraction):
    """The least whole number that isn't below the number by the fraction, which is above 0."""
    return -(-number * fraction[1] // fraction[0])
