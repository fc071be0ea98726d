"""Fractions of whole numbers."""


def common_measure(one, other):
    while other != 0:
        rest = one % other
        one = other
        other = rest
    return one


# The two numbers, above and below; 0 comes out as 0 1, as it shares all of what is below it.
def lowest_terms(above, below):
    measure = common_measure(above, below)
    return [above // measure, below // measure]


# Each is two numbers, above and below; what is below is never 0.
def is_greater(ratio, other):
    return ratio[0] * other[1] > other[0] * ratio[1]
