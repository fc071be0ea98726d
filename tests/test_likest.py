"""likest: which of those kept is most alike by reach, and how alike."""

import itertools
import unittest
from fractions import Fraction

from tests.helper import answer_of, answers_of, keep, keep_all, last_answer_of, likest, prices, reach


class Ordinary(unittest.TestCase):
    def test_names(self):
        # martha and marhta: a third of (1 + 1 + 10/12).
        kept = keep_all(("dwayne", "marhta", "dixon"))
        self.assertEqual(last_answer_of(*kept, likest("martha")), [2, 17, 18])
        self.assertEqual(last_answer_of(*kept, likest("duane")), [1, 37, 45])
        self.assertEqual(last_answer_of(*kept, likest("dicksonx")), [3, 23, 30])

    def test_one_kept(self):
        self.assertEqual(last_answer_of(keep("dwayne"), likest("duane")), [1, 37, 45])

    def test_the_text_itself_is_kept(self):
        # 17/18 has the greater numbers, but 1 is more.
        self.assertEqual(last_answer_of(*keep_all(("marhta", "martha")), likest("martha")), [2, 1, 1])
        self.assertEqual(last_answer_of(*keep_all(("martha", "marhta")), likest("martha")), [1, 1, 1])

    def test_fractions_are_weighed_as_a_whole(self):
        # abcd beside abxx: a third of (2/4 + 2/4 + 1), 2/3; beside a: a third of (1/4 + 1 + 1), 3/4.
        self.assertEqual(last_answer_of(*keep_all(("abxx", "a")), likest("abcd")), [2, 3, 4])
        self.assertEqual(last_answer_of(*keep_all(("a", "abxx")), likest("abcd")), [1, 3, 4])
        # abcdef beside bcadef: 11/12; beside abdcef: a third of (1 + 1 + 10/12), 17/18.
        self.assertEqual(last_answer_of(*keep_all(("bcadef", "abdcef")), likest("abcdef")), [2, 17, 18])
        self.assertEqual(last_answer_of(*keep_all(("abdcef", "bcadef")), likest("abcdef")), [1, 17, 18])

    def test_prices_do_not_matter(self):
        self.assertEqual(last_answer_of(*keep_all(("dwayne", "marhta")), prices(9, 1), likest("martha")), [2, 17, 18])

    def test_what_is_kept_later_counts_from_then_on(self):
        self.assertEqual(answers_of(keep("abxx"), likest("abcd"), keep("abcd"), likest("abcd")),
                         [[1], [1, 2, 3], [2], [2, 1, 1]])


class TheFirstOfSeveral(unittest.TestCase):
    def test_the_same_text(self):
        self.assertEqual(last_answer_of(*keep_all(("abc", "abc")), likest("abc")), [1, 1, 1])
        self.assertEqual(last_answer_of(*keep_all(("dwayne", "marhta", "marhta")), likest("martha")), [2, 17, 18])

    def test_other_texts_as_alike(self):
        # Each beside abcd: a third of (2/4 + 2/4 + 1).
        self.assertEqual(last_answer_of(*keep_all(("xxxx", "xxcd", "abxx", "axxd")), likest("abcd")), [2, 2, 3])

    def test_twelve(self):
        self.assertEqual(last_answer_of(*keep_all(["b"] * 11 + ["a"]), likest("a")), [12, 1, 1])
        self.assertEqual(last_answer_of(*keep_all(["a"] * 12), likest("a")), [1, 1, 1])


class Edges(unittest.TestCase):
    def test_an_empty_text_told(self):
        self.assertEqual(last_answer_of(*keep_all(("a", "")), likest("")), [2, 1, 1])
        self.assertEqual(last_answer_of(keep("a"), likest("")), [1, 0, 1])

    def test_an_empty_text_kept(self):
        self.assertEqual(last_answer_of(keep(""), likest("a")), [1, 0, 1])
        self.assertEqual(last_answer_of(*keep_all(("", "a")), likest("ab")), [2, 5, 6])
        self.assertEqual(last_answer_of(keep(""), likest("")), [1, 1, 1])

    def test_none_alike_at_all(self):
        self.assertEqual(last_answer_of(*keep_all(("xyz", "uvw", "")), likest("abc")), [1, 0, 1])

    def test_one_that_is_hardly_alike_is_more_than_one_that_is_not(self):
        self.assertEqual(last_answer_of(*keep_all(("xyz", "uvw", "xbx")), likest("abc")), [3, 5, 9])

    def test_nothing_kept(self):
        self.assertEqual(answer_of(likest("abc")), [-3])


class AgainstReach(unittest.TestCase):
    def test_the_first_of_the_most_alike(self):
        texts = ("meier", "mayer", "maier", "", "m", "meyers", "reime", "eimer", "remy", "yam", "abcabc", "cabcab")
        for kept in (texts, texts[::-1], texts[3:9]):
            for text in texts + ("bca", "rye"):
                ratios = [Fraction(*answer_of(reach(text, other))[2:]) for other in kept]
                most = max(ratios)
                told = [ratios.index(most) + 1, most.numerator, most.denominator]
                self.assertEqual(last_answer_of(*keep_all(kept), likest(text)), told, (kept, text))

    def test_the_text_first_and_the_kept_one_second(self):
        texts = ("abcabc", "cabcab", "aab", "abaab", "bba", "dicksonx", "dixon")
        for text, other in itertools.product(texts, repeat=2):
            self.assertEqual(last_answer_of(keep(other), likest(text))[1:], answer_of(reach(text, other))[2:])
