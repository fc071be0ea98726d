"""The cheapest steps that make one text of another."""


# A row for each place of text, in it for each place of other: the least price of what is left of both from there on.
# From the ends back: the first way is chosen from the left, and must know there what each step leads to.
def least_prices(text, other, move, becomes):
    rows = [[move * (len(other) - place) for place in range(len(other) + 1)]]
    for byte in reversed(text):
        rows.append(row_ahead(byte, other, rows[-1], move, becomes))
    rows.reverse()
    return rows


# The row for the place of byte, made of the row for the place behind it.
def row_ahead(byte, other, behind, move, becomes):
    row = [behind[-1] + move]
    for place in range(len(other) - 1, -1, -1):
        on_both = behind[place + 1] + (0 if other[place] == byte else becomes)
        row.append(min(on_both, behind[place] + move, row[-1] + move))
    row.reverse()
    return row


def least_price(text, other, move, becomes):
    return least_prices(text, other, move, becomes)[0][0]


# One step: the numbers that tell it, its price, and where both texts are gone on from behind it.
class Step:
    def __init__(self, told, price, place, other_place):
        self.told = told
        self.price = price
        self.place = place
        self.other_place = other_place


# Two texts beside one another. move is the price of one that goes or comes, becomes that of one that becomes another.
class Comparison:
    def __init__(self, text, other, move, becomes):
        self.text = text
        self.other = other
        self.move = move
        self.becomes = becomes
        self.least_from = least_prices(text, other, move, becomes)
        self.ways_from = [[1] * (len(other) + 1) for row in range(len(text) + 1)]
        for place in range(len(text), -1, -1):
            for other_place in range(len(other), -1, -1):
                self.reckon_ways(place, other_place)

    # At both ends no step is left: that is one way.
    def reckon_ways(self, place, other_place):
        steps = self.cheapest_steps(place, other_place)
        if len(steps) > 0:
            self.ways_from[place][other_place] = sum([self.ways_by(step) for step in steps])

    def price_by(self, step):
        return step.price + self.least_from[step.place][step.other_place]

    def ways_by(self, step):
        return self.ways_from[step.place][step.other_place]

    def cheapest_steps(self, place, other_place):
        least = self.least_from[place][other_place]
        return [step for step in self.open_steps(place, other_place) if self.price_by(step) == least]

    # In the order in which the first way prefers them.
    def open_steps(self, place, other_place):
        steps = []
        if place < len(self.text) and other_place < len(self.other):
            steps.append(self.step_on_both(place, other_place))
        if place < len(self.text):
            steps.append(Step([2], self.move, place + 1, other_place))
        if other_place < len(self.other):
            steps.append(Step([3, self.other[other_place]], self.move, place, other_place + 1))
        return steps

    def step_on_both(self, place, other_place):
        byte = self.other[other_place]
        if self.text[place] == byte:
            return Step([0], 0, place + 1, other_place + 1)
        return Step([1, byte], self.becomes, place + 1, other_place + 1)

    def how_many_ways(self):
        return self.ways_from[0][0]

    def first_way(self):
        way = []
        steps = self.cheapest_steps(0, 0)
        while len(steps) > 0:
            way.append(steps[0])
            steps = self.cheapest_steps(steps[0].place, steps[0].other_place)
        return way


# The least price, how many ways, how many steps the first way has, and these.
def cheapest_changes(text, other, move, becomes):
    comparison = Comparison(text, other, move, becomes)
    way = comparison.first_way()
    answer = [comparison.least_from[0][0], comparison.how_many_ways(), len(way)]
    for step in way:
        answer.extend(step.told)
    return answer
