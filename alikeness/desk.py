"""The desk that a line of calls is about, and what it answers."""

from alikeness.changes import cheapest_changes
from alikeness.kept import likest_one, near_ones, sounding_ones
from alikeness.pieces import pieces_likeness
from alikeness.reach import reach_likeness
from alikeness.reading import read_calls
from alikeness.sounds import FIRST_CLASSES, sound_of
from alikeness.words import cheapest_laying, words_of

NOT_AS_TOLD = -1
NOTHING_KEPT = -3
TOO_MANY_WORDS = -4
ALL_KEPT = -6
MOST_WORDS = 5
MOST_KEPT = 12


def is_text(row):
    return len(row) <= 24 and all([byte <= 255 for byte in row])


# Every call answers a list of numbers; a refusal is its number alone in that list.
class Desk:
    def __init__(self):
        self.move = 1
        self.becomes = 1
        self.letter_classes = list(FIRST_CLASSES)
        self.kept = []

    def prices(self, move, becomes):
        if not (1 <= move <= 9 and 1 <= becomes <= 9):
            return [NOT_AS_TOLD]
        self.move = move
        self.becomes = becomes
        return [0]

    def changes(self, text, other):
        if not (is_text(text) and is_text(other)):
            return [NOT_AS_TOLD]
        return cheapest_changes(text, other, self.move, self.becomes)

    def reach(self, text, other):
        if not (is_text(text) and is_text(other)):
            return [NOT_AS_TOLD]
        return reach_likeness(text, other)

    def pieces(self, q, text, other):
        if not (1 <= q <= 4 and is_text(text) and is_text(other)):
            return [NOT_AS_TOLD]
        return pieces_likeness(q, text, other)

    def classes(self, classes):
        if len(classes) != 26 or any([number > 9 for number in classes]):
            return [NOT_AS_TOLD]
        self.letter_classes = list(classes)
        return [0]

    def sounds(self, n, text):
        if not (1 <= n <= 8 and is_text(text)):
            return [NOT_AS_TOLD]
        sound = sound_of(n, text, self.letter_classes)
        return [len(sound)] + sound

    def words(self, text, other):
        if not (is_text(text) and is_text(other)):
            return [NOT_AS_TOLD]
        words = words_of(text)
        others = words_of(other)
        if len(words) > MOST_WORDS or len(others) > MOST_WORDS:
            return [TOO_MANY_WORDS]
        return cheapest_laying(words, others, self.move, self.becomes)

    def keep(self, text):
        if not is_text(text):
            return [NOT_AS_TOLD]
        if len(self.kept) == MOST_KEPT:
            return [ALL_KEPT]
        self.kept.append(list(text))
        return [len(self.kept)]

    def near(self, k, text):
        if not is_text(text):
            return [NOT_AS_TOLD]
        return near_ones(k, text, self.kept, self.move, self.becomes)

    def sounding(self, n, text):
        if not (1 <= n <= 8 and is_text(text)):
            return [NOT_AS_TOLD]
        return sounding_ones(n, text, self.kept, self.letter_classes)

    def likest(self, text):
        if not is_text(text):
            return [NOT_AS_TOLD]
        if len(self.kept) == 0:
            return [NOTHING_KEPT]
        return likest_one(text, self.kept)

    def counts(self):
        return [self.move, self.becomes, len(self.kept)]

    def answer(self, name, handed):
        if name == "prices":
            return self.prices(handed[0], handed[1])
        if name == "changes":
            return self.changes(handed[0], handed[1])
        if name == "reach":
            return self.reach(handed[0], handed[1])
        if name == "pieces":
            return self.pieces(handed[0], handed[1], handed[2])
        if name == "classes":
            return self.classes(handed[0])
        if name == "sounds":
            return self.sounds(handed[0], handed[1])
        if name == "words":
            return self.words(handed[0], handed[1])
        if name == "keep":
            return self.keep(handed[0])
        if name == "near":
            return self.near(handed[0], handed[1])
        if name == "sounding":
            return self.sounding(handed[0], handed[1])
        if name == "likest":
            return self.likest(handed[0])
        return self.counts()


# For each call, in order: how many numbers it answers, then these.
def answers(calls):
    desk = Desk()
    answered = []
    for name, handed in read_calls(calls):
        answer = desk.answer(name, handed)
        answered.append(len(answer))
        answered.extend(answer)
    return answered
