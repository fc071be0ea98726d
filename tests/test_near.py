"""near: which of those kept have a least price of k at most, the cheaper ones first."""

import itertools
import unittest

from tests.helper import answer_of, answers_of, changes, keep, keep_all, last_answer_of, near, prices

MOST = 4294967295
NAMES = keep_all(("meier", "mayer", "maier"))


class Ordinary(unittest.TestCase):
    def test_names(self):
        # mayer itself; maier at 1; meier at 2.
        self.assertEqual(last_answer_of(*NAMES, near(0, "mayer")), [1, 2, 0])
        self.assertEqual(last_answer_of(*NAMES, near(1, "mayer")), [2, 2, 0, 3, 1])
        self.assertEqual(last_answer_of(*NAMES, near(2, "mayer")), [3, 2, 0, 3, 1, 1, 2])

    def test_what_is_kept_later_is_told_from_then_on(self):
        self.assertEqual(answers_of(near(1, "a"), keep("a"), near(1, "a"), keep("b"), near(1, "a")),
                         [[0], [1], [1, 1, 0], [2], [2, 1, 0, 2, 1]])

    def test_other_bytes_than_letters_count(self):
        self.assertEqual(last_answer_of(keep("a b"), near(1, "ab")), [1, 1, 1])
        self.assertEqual(last_answer_of(keep("A"), near(0, "a")), [0])


class HowNear(unittest.TestCase):
    def test_nothing_kept(self):
        for k in (0, 1, MOST):
            self.assertEqual(answer_of(near(k, "a")), [0])
            self.assertEqual(answer_of(near(k, "")), [0])

    def test_k_of_nought(self):
        self.assertEqual(last_answer_of(*NAMES, near(0, "meier")), [1, 1, 0])
        self.assertEqual(last_answer_of(*NAMES, near(0, "meyer")), [0])

    def test_the_least_price_and_one_below_it(self):
        self.assertEqual(last_answer_of(keep("sitting"), near(3, "kitten")), [1, 1, 3])
        self.assertEqual(last_answer_of(keep("sitting"), near(2, "kitten")), [0])

    def test_the_dearest_and_the_greatest_k(self):
        dear = (prices(9, 9), keep("a" * 24))
        self.assertEqual(last_answer_of(*dear, near(MOST, "b" * 24)), [1, 1, 216])
        self.assertEqual(last_answer_of(*dear, near(216, "b" * 24)), [1, 1, 216])
        self.assertEqual(last_answer_of(*dear, near(215, "b" * 24)), [0])
        self.assertEqual(last_answer_of(*NAMES, near(MOST, "xyz")), [3, 2, 4, 1, 5, 3, 5])

    def test_an_empty_text(self):
        kept = keep_all(("abc", "", "a"))
        self.assertEqual(last_answer_of(*kept, near(0, "")), [1, 2, 0])
        self.assertEqual(last_answer_of(*kept, near(3, "")), [3, 2, 0, 3, 1, 1, 3])


class Order(unittest.TestCase):
    def test_as_cheap_ones_by_number(self):
        self.assertEqual(last_answer_of(*keep_all(("d", "b", "c")), near(1, "a")), [3, 1, 1, 2, 1, 3, 1])
        self.assertEqual(last_answer_of(*keep_all(("a", "b", "a", "b")), near(1, "a")), [4, 1, 0, 3, 0, 2, 1, 4, 1])

    def test_a_cheaper_one_kept_later_is_told_first(self):
        self.assertEqual(last_answer_of(*keep_all(("abcd", "abc", "ab", "a")), near(2, "a")), [3, 4, 0, 3, 1, 2, 2])
        self.assertEqual(last_answer_of(*keep_all(("b", "c", "a", "d")), near(1, "a")), [4, 3, 0, 1, 1, 2, 1, 4, 1])

    def test_twelve_from_the_dearest_on(self):
        kept = keep_all(["a" * size for size in range(12, 0, -1)])
        told = [number for size in range(12) for number in (12 - size, size)]
        self.assertEqual(last_answer_of(*kept, near(11, "a")), [12] + told)

    def test_by_price_and_not_as_texts(self):
        # Prices of 9 and of 10: the lesser first.
        self.assertEqual(last_answer_of(*keep_all(("a" * 10, "a" * 9)), near(MOST, "")), [2, 2, 9, 1, 10])


class AtPrices(unittest.TestCase):
    def test_changed_between_keep_and_near(self):
        self.assertEqual(answers_of(keep("ab"), near(9, "ac"), prices(9, 4), near(9, "ac"), near(3, "ac"), near(9, "a"),
                                    prices(2, 9), near(9, "ac"), near(9, "a")),
                         [[1], [1, 1, 1], [0], [1, 1, 4], [0], [1, 1, 9], [0], [1, 1, 4], [1, 1, 2]])

    def test_they_change_the_order(self):
        kept = keep_all(("ab", "x"))
        self.assertEqual(last_answer_of(*kept, prices(1, 2), near(9, "a")), [2, 1, 1, 2, 2])
        self.assertEqual(last_answer_of(*kept, prices(2, 1), near(9, "a")), [2, 2, 1, 1, 2])


class AgainstChanges(unittest.TestCase):
    TEXTS = ["".join(letters) for size in range(3) for letters in itertools.product("ab", repeat=size)]

    def price(self, text, other, move, becoming):
        return last_answer_of(prices(move, becoming), keep(other), near(MOST, text))[2]

    def test_the_text_first_and_the_kept_one_second(self):
        texts = ("kitten", "sitting", "", "abc", "cab", "abcabc")
        for move, becoming in ((1, 1), (2, 3), (3, 2), (1, 9)):
            for text, other in itertools.product(texts, repeat=2):
                told = last_answer_of(prices(move, becoming), changes(text, other))[0]
                self.assertEqual(self.price(text, other, move, becoming), told)

    def test_prices_are_distances(self):
        for move, becoming in ((1, 1), (1, 9), (9, 1), (2, 3)):
            price = {pair: self.price(*pair, move, becoming) for pair in itertools.product(self.TEXTS, repeat=2)}
            for one, other in price:
                self.assertEqual(price[one, other], price[other, one])
                self.assertEqual(price[one, other] == 0, one == other)
                for third in self.TEXTS:
                    self.assertLessEqual(price[one, third], price[one, other] + price[other, third])

    def test_just_those_that_are_near(self):
        texts = ("meier", "mayer", "maier", "", "m", "meyers", "reime", "eimer")
        for k, text in itertools.product(range(8), texts):
            priced = [(self.price(text, other, 1, 1), number) for number, other in enumerate(texts, 1)]
            found = sorted(pair for pair in priced if pair[0] <= k)
            told = [len(found)] + [part for price, number in found for part in (number, price)]
            self.assertEqual(last_answer_of(*keep_all(texts), near(k, text)), told)
