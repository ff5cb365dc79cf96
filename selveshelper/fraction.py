"""How a fraction is told."""


def common_divisor(first, second):
    """Give the greatest number that divides both; neither is below 0, and they are not both 0."""
    larger = first
    smaller = second
    while smaller > 0:
        rest = larger % smaller
        larger = smaller
        smaller = rest
    return larger


def lowest_terms(top, bottom):
    """Give the two numbers by which top by bottom is told; bottom is 1 or more."""
    divisor = common_divisor(abs(top), bottom)
    return [top // divisor, bottom // divisor]


def all_lowest_terms(tops, bottom):
    """Give how many tops there are, then the two numbers of each by bottom."""
    told = [len(tops)]
    for top in tops:
        told.extend(lowest_terms(top, bottom))
    return told
