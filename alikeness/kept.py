"""Which of the kept texts are near, sound the same, or are likest; they are numbered from 1 on."""

from alikeness.changes import least_price
from alikeness.ratio import is_greater
from alikeness.reach import reach_likeness
from alikeness.sounds import sound_of


# How many, then of each its number and its price.
def near_ones(k, text, kept, move, becomes):
    found = []
    for number, other in enumerate(kept, start=1):
        price = least_price(text, other, move, becomes)
        if price <= k:
            found.append((price, number))
    answer = [len(found)]
    for price, number in sorted(found):
        answer.extend([number, price])
    return answer


# How many, then their numbers.
def sounding_ones(n, text, kept, classes):
    sound = sound_of(n, text, classes)
    numbers = [number for number, other in enumerate(kept, start=1) if sound_of(n, other, classes) == sound]
    return [len(numbers)] + numbers


# The number of the first one that is most alike, and how alike; one must be kept.
def likest_one(text, kept):
    likest = 1
    most = reach_likeness(text, kept[0])[2:]
    for number, other in enumerate(kept, start=1):
        alike = reach_likeness(text, other)[2:]
        if is_greater(alike, most):
            likest = number
            most = alike
    return [likest] + most
