"""Ranges: sets of numbers as pairs of a first and a last number."""


def ranges_of(numbers):
    """The ranges of the numbers, which may stand in any order and be repeated."""
    found = []
    for number in sorted(set(numbers)):
        if found and number == found[-1][1] + 1:
            found[-1] = (found[-1][0], number)
        else:
            found.append((number, number))
    return tuple(found)


def numbers_of(ranges):
    """The numbers of the ranges, ascending."""
    return tuple([number for first, last in ranges for number in range(first, last + 1)])
