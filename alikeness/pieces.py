"""How alike two texts are by the pieces that they have in common."""

from alikeness.ratio import lowest_terms


def pieces_of(q, text):
    return [text[place:place + q] for place in range(len(text) - q + 1)]


def how_many_in_common(pieces, others):
    unmatched = list(others)
    common = 0
    for piece in pieces:
        if piece in unmatched:
            unmatched.remove(piece)
            common += 1
    return common


# How many are in common, how many each text has, and how alike.
def pieces_likeness(q, text, other):
    pieces = pieces_of(q, text)
    others = pieces_of(q, other)
    common = how_many_in_common(pieces, others)
    in_all = len(pieces) + len(others)
    likeness = [1, 1] if in_all == 0 else lowest_terms(2 * common, in_all)
    return [common, len(pieces), len(others)] + likeness
