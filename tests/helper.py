"""Writes calls as the numbers that alikeness.desk.answers reads, and parts what it answers call by call."""

from alikeness.desk import answers


def row(text):
    """A row with its count ahead; a str stands for its bytes."""
    numbers = list(text.encode("latin-1")) if isinstance(text, str) else list(text)
    return [len(numbers)] + numbers


def prices(move, becomes):
    return [0, move, becomes]


def changes(text, other):
    return [1] + row(text) + row(other)


def reach(text, other):
    return [2] + row(text) + row(other)


def pieces(q, text, other):
    return [3, q] + row(text) + row(other)


def classes(numbers):
    return [4] + row(numbers)


def sounds(n, text):
    return [5, n] + row(text)


def words(text, other):
    return [6] + row(text) + row(other)


def keep(text):
    return [7] + row(text)


def near(k, text):
    return [8, k] + row(text)


def sounding(n, text):
    return [9, n] + row(text)


def likest(text):
    return [10] + row(text)


def counts():
    return [11]


def keep_all(texts):
    """One call for each text."""
    return [keep(text) for text in texts]


def answers_of(*calls):
    """One list for each call: what it answers, without the count ahead."""
    answered = answers([number for call in calls for number in call])
    parted = []
    place = 0
    while place < len(answered):
        behind = place + 1 + answered[place]
        parted.append(answered[place + 1:behind])
        place = behind
    if place != len(answered) or len(parted) != len(calls):
        raise AssertionError(f"the counts do not fit: {answered}")
    return parted


def answer_of(call):
    return answers_of(call)[0]


def last_answer_of(*calls):
    return answers_of(*calls)[-1]
