"""changes: the least price, how many ways, the first way."""

import itertools
import unittest

from tests.helper import answer_of, answers_of, changes, prices

STAY, GO = 0, 2


def becomes(letter):
    return [1, ord(letter)]


def comes(letter):
    return [3, ord(letter)]


def priced(move, becoming, text, other):
    return answers_of(prices(move, becoming), changes(text, other))[1]


def all_ways(text, other):
    """Every row of steps, without regard to price; the preferred step first at each place."""
    ways = []
    if text and other:
        step = (0,) if text[0] == other[0] else (1, other[0])
        ways += [[step] + way for way in all_ways(text[1:], other[1:])]
    if text:
        ways += [[(2,)] + way for way in all_ways(text[1:], other)]
    if other:
        ways += [[(3, other[0])] + way for way in all_ways(text, other[1:])]
    return ways if text or other else [[]]


def price_of(way, move, becoming):
    return sum((0, becoming, move, move)[step[0]] for step in way)


def by_trying_all(text, other, move, becoming):
    ways = all_ways(text, other)
    least = min(price_of(way, move, becoming) for way in ways)
    cheapest = [way for way in ways if price_of(way, move, becoming) == least]
    return [least, len(cheapest), len(cheapest[0])] + [number for step in cheapest[0] for number in step]


class Ordinary(unittest.TestCase):
    def test_two_names(self):
        self.assertEqual(answer_of(changes("meier", "mayer")),
                         [2, 1, 5, STAY] + becomes("a") + becomes("y") + [STAY, STAY])
        self.assertEqual(answer_of(changes("maier", "mayer")), [1, 1, 5, STAY, STAY] + becomes("y") + [STAY, STAY])

    def test_kitten_and_sitting(self):
        self.assertEqual(answer_of(changes("kitten", "sitting")),
                         [3, 1, 7] + becomes("s") + [STAY] * 3 + becomes("i") + [STAY] + comes("g"))

    def test_both_empty(self):
        self.assertEqual(answer_of(changes("", "")), [0, 1, 0])

    def test_one_empty(self):
        self.assertEqual(answer_of(changes("abc", "")), [3, 1, 3, GO, GO, GO])
        self.assertEqual(answer_of(changes("", "abc")), [3, 1, 3] + comes("a") + comes("b") + comes("c"))
        self.assertEqual(priced(4, 9, "abc", ""), [12, 1, 3, GO, GO, GO])

    def test_like_texts(self):
        self.assertEqual(answer_of(changes("aaa", "aaa")), [0, 1, 3, STAY, STAY, STAY])
        self.assertEqual(priced(9, 9, "meier", "meier"), [0, 1, 5] + [STAY] * 5)

    def test_capital_letters_are_other_bytes(self):
        self.assertEqual(answer_of(changes("A", "a")), [1, 1, 1] + becomes("a"))

    def test_a_zero_byte_is_a_byte(self):
        self.assertEqual(answer_of(changes([0, 0], [0])), [1, 2, 2, STAY, GO])
        self.assertEqual(answer_of(changes([1], [0])), [1, 1, 1, 1, 0])


class AtPrices(unittest.TestCase):
    def test_becoming_is_cheaper_than_going_and_coming(self):
        self.assertEqual(priced(2, 3, "a", "b"), [3, 1, 1] + becomes("b"))

    def test_becoming_is_as_dear_as_going_and_coming(self):
        self.assertEqual(priced(2, 4, "a", "b"), [4, 3, 1] + becomes("b"))

    def test_becoming_is_dearer_than_going_and_coming(self):
        self.assertEqual(priced(2, 5, "a", "b"), [4, 2, 2, GO] + comes("b"))

    def test_prices_are_not_taken_for_one_another(self):
        self.assertEqual(priced(1, 9, "ab", "b"), [1, 1, 2, GO, STAY])
        self.assertEqual(priced(9, 1, "ab", "b"), [9, 1, 2, GO, STAY])
        self.assertEqual(priced(9, 1, "ab", "ba"), [2, 1, 2] + becomes("b") + becomes("a"))


class FirstWay(unittest.TestCase):
    def test_staying_ahead_of_going_and_coming(self):
        self.assertEqual(answer_of(changes("aa", "a")), [1, 2, 2, STAY, GO])
        self.assertEqual(answer_of(changes("a", "aa")), [1, 2, 2, STAY] + comes("a"))

    def test_becoming_ahead_of_going_and_coming(self):
        self.assertEqual(answer_of(changes("ab", "ba")), [2, 3, 2] + becomes("b") + becomes("a"))
        self.assertEqual(answer_of(changes("ab", "c")), [2, 2, 2] + becomes("c") + [GO])
        self.assertEqual(answer_of(changes("c", "ab")), [2, 2, 2] + becomes("a") + comes("b"))

    def test_going_ahead_of_coming(self):
        self.assertEqual(priced(1, 2, "ab", "ba"), [2, 2, 3, GO, STAY] + comes("a"))
        self.assertEqual(priced(1, 9, "ab", "cd"), [4, 6, 4, GO, GO] + comes("c") + comes("d"))

    def test_a_dearer_way_does_not_count_though_it_begins_as_preferred(self):
        self.assertEqual(answer_of(changes("xabc", "abc")), [1, 1, 4, GO, STAY, STAY, STAY])
        self.assertEqual(answer_of(changes("abc", "xabc")), [1, 1, 4] + comes("x") + [STAY] * 3)


class ManyWays(unittest.TestCase):
    def test_all_that_go_and_come_in_any_order(self):
        # 24 that go and 24 that come: 48 over 24.
        self.assertEqual(priced(1, 3, "a" * 24, "b" * 24),
                         [48, 32247603683100, 48] + [GO] * 24 + comes("b") * 24)

    def test_every_row_of_steps_is_as_cheap(self):
        # The 24th number of Delannoy: the sum over k of (24 over k) squared times 2 to the k.
        self.assertEqual(priced(1, 2, "a" * 24, "b" * 24), [48, 274738209148561921, 24] + becomes("b") * 24)

    def test_one_byte_many_times(self):
        # 12 of 24 stay, whichever: 24 over 12.
        self.assertEqual(answer_of(changes("a" * 24, "a" * 12)), [12, 2704156, 24] + [STAY] * 12 + [GO] * 12)


class AgainstTryingAll(unittest.TestCase):
    def test_short_texts_at_several_prices(self):
        texts = ["".join(letters) for size in range(4) for letters in itertools.product("ab", repeat=size)]
        texts += ["abca", "cabb", "bcab"]
        for move, becoming in ((1, 1), (1, 2), (1, 3), (2, 3), (3, 1), (9, 9)):
            for text, other in itertools.product(texts, repeat=2):
                told = by_trying_all(text.encode(), other.encode(), move, becoming)
                self.assertEqual(priced(move, becoming, text, other), told, (move, becoming, text, other))
