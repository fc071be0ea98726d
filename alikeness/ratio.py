"""Fractions of whole numbers."""


def common_measure(one, other):
    while other != 0:
        rest = one % other
        one = other
        other = rest
    return one


# The two numbers, above and below; 0 comes out as 0 1, as it shares all of what is below it.
def lowest_terms(above, below):
    measure = common_measure(above, below)
    return [above // measure, below // measure]
