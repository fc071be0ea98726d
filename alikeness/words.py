"""The words of two texts, laid beside one another as cheaply as can be."""

from alikeness.changes import least_price

BLANK = 32
NOTHING = 0


def words_of(text):
    words = []
    word = []
    # A blank more at the end closes the last word like any other.
    for byte in text + [BLANK]:
        if byte != BLANK:
            word.append(byte)
        elif len(word) > 0:
            words.append(word)
            word = []
    return words


# What a word costs beside nothing, then beside each of the others: the others count from 1 on.
def prices_beside(word, others, move, becomes):
    return [move * len(word)] + [least_price(word, other, move, becomes) for other in others]


# A way to lay words: what it costs, and of each word the number of the other one beside it, or NOTHING.
class Way:
    def __init__(self, price, beside):
        self.price = price
        self.beside = beside


class Laying:
    def __init__(self, words, others, move, becomes):
        self.beside_prices = [prices_beside(word, others, move, becomes) for word in words]
        self.left_prices = [move * len(other) for other in others]

    # Of the words from place on, with the numbers of the other ones that are free, in order.
    def cheapest_way(self, place, free):
        if place == len(self.beside_prices):
            return Way(sum([self.left_prices[number - 1] for number in free]), [])
        # Of ways that cost as much min takes the first, so they are tried in the order in which they are preferred.
        ways = [self.cheapest_way_with(place, number, free) for number in free + [NOTHING]]
        return min(ways, key=lambda way: way.price)

    def cheapest_way_with(self, place, number, free):
        rest = self.cheapest_way(place + 1, [other for other in free if other != number])
        return Way(self.beside_prices[place][number] + rest.price, [number] + rest.beside)


# What it costs, how many words there are, and beside which of the others each stands.
def cheapest_laying(words, others, move, becomes):
    numbers = list(range(1, len(others) + 1))
    way = Laying(words, others, move, becomes).cheapest_way(0, numbers)
    return [way.price, len(words)] + way.beside
