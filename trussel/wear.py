"""The marks that dies get by wear."""

LAST_SPOT = 7


def is_number(thing):
    """Whether it is a whole number."""
    # Python counts True and False as 1 and 0; here they are no numbers.
    return isinstance(thing, int) and not isinstance(thing, bool)


def number_from(number, least, most):
    """Whether it is a whole number from least to most."""
    return is_number(number) and least <= number <= most


def good_marks(marks):
    """Whether a tuple of numbers is marks: unlike spots, rising."""
    least = 0
    for spot in marks:
        if not number_from(spot, least, LAST_SPOT):
            return False
        least = spot + 1
    return True


def within(one, other):
    """Whether all marks of one are among those of other."""
    return all([spot in other for spot in one])


def both(one, other):
    """The marks that are among one or other."""
    return tuple(sorted(set(one) | set(other)))
