"""How alike two texts are by bytes that stand about where they should."""

from alikeness.ratio import lowest_terms


def reach_of(text, other):
    return max(max(len(text), len(other)) // 2 - 1, 0)


# None if there is no such place.
def first_free_place(byte, place, other, taken, reach):
    for other_place, other_byte in enumerate(other):
        if other_byte == byte and abs(other_place - place) <= reach and not taken[other_place]:
            return other_place
    return None


# For each byte of text the place of other that it takes, or None.
def places_taken(text, other):
    reach = reach_of(text, other)
    taken = [False] * len(other)
    places = []
    for place, byte in enumerate(text):
        other_place = first_free_place(byte, place, other, taken, reach)
        if other_place is not None:
            taken[other_place] = True
        places.append(other_place)
    return places


def how_many_astray(text, other, places):
    ours = [byte for byte, place in zip(text, places) if place is not None]
    theirs = [other[place] for place in sorted([place for place in places if place is not None])]
    return len([byte for byte, other_byte in zip(ours, theirs) if byte != other_byte])


# A third of (m / a + m / b + (2 m - d) / (2 m)), all over 6 m a b.
def likeness(taken, astray, length, other_length):
    if length == 0 and other_length == 0:
        return [1, 1]
    if taken == 0:
        return [0, 1]
    above = 2 * taken * taken * (length + other_length) + (2 * taken - astray) * length * other_length
    return lowest_terms(above, 6 * taken * length * other_length)


# How many are taken, how many are astray, and how alike: a fraction, its two numbers last.
def reach_likeness(text, other):
    places = places_taken(text, other)
    taken = len([place for place in places if place is not None])
    astray = how_many_astray(text, other, places)
    return [taken, astray] + likeness(taken, astray, len(text), len(other))
