"""reach: how many are taken, how many are astray, how alike."""

import unittest

from tests.helper import answer_of, answers_of, prices, reach


class Ordinary(unittest.TestCase):
    def test_two_astray(self):
        # A third of (6/6 + 6/6 + 10/12).
        self.assertEqual(answer_of(reach("martha", "marhta")), [6, 2, 17, 18])

    def test_three_astray(self):
        # A third of (1 + 1 + 9/12).
        self.assertEqual(answer_of(reach("abcdef", "bcadef")), [6, 3, 11, 12])

    def test_none_astray_and_other_lengths(self):
        # A third of (4/6 + 4/5 + 1), and of (4/5 + 4/8 + 1).
        self.assertEqual(answer_of(reach("dwayne", "duane")), [4, 0, 37, 45])
        self.assertEqual(answer_of(reach("dixon", "dicksonx")), [4, 0, 23, 30])

    def test_like_texts(self):
        self.assertEqual(answer_of(reach("meier", "meier")), [5, 0, 1, 1])

    def test_prices_do_not_matter(self):
        self.assertEqual(answers_of(prices(9, 4), reach("martha", "marhta"))[1], [6, 2, 17, 18])


class Edges(unittest.TestCase):
    def test_both_empty(self):
        self.assertEqual(answer_of(reach("", "")), [0, 0, 1, 1])

    def test_one_empty(self):
        self.assertEqual(answer_of(reach("abc", "")), [0, 0, 0, 1])
        self.assertEqual(answer_of(reach("", "abc")), [0, 0, 0, 1])

    def test_none_taken(self):
        self.assertEqual(answer_of(reach("abc", "xyz")), [0, 0, 0, 1])

    def test_the_reach_is_never_below_zero(self):
        for text in ("a", "ab", "abc"):
            self.assertEqual(answer_of(reach(text, text)), [len(text), 0, 1, 1])

    def test_reach_of_zero_takes_only_at_the_same_place(self):
        self.assertEqual(answer_of(reach("ab", "ba")), [0, 0, 0, 1])
        self.assertEqual(answer_of(reach("abx", "yab")), [0, 0, 0, 1])

    def test_just_within_and_just_beyond_the_reach(self):
        # Length 4: a reach of 1. One taken: a third of (1/4 + 1/4 + 1).
        for other, told in (("bxxx", [1, 0, 1, 2]), ("xxbx", [1, 0, 1, 2]), ("xxxb", [0, 0, 0, 1])):
            self.assertEqual(answer_of(reach("abcd", other)), told)
        # Length 24: a reach of 11. One taken: a third of (1/24 + 1/24 + 1).
        text = "a" + "b" * 23
        self.assertEqual(answer_of(reach(text, "c" * 11 + "a" + "c" * 12)), [1, 0, 13, 36])
        self.assertEqual(answer_of(reach(text, "c" * 12 + "a" + "c" * 11)), [0, 0, 0, 1])

    def test_an_odd_length_is_halved_downwards(self):
        # Length 5: a reach of 1.
        self.assertEqual(answer_of(reach("abbbb", "ccacc")), [0, 0, 0, 1])
        self.assertEqual(answer_of(reach("abbbb", "caccc")), [1, 0, 7, 15])

    def test_the_longer_text_sets_the_reach_on_either_side(self):
        # Length 8: a reach of 3, though the other one has 1. One taken: a third of (1/1 + 1/8 + 1).
        self.assertEqual(answer_of(reach("a", "bbbabbbb")), [1, 0, 17, 24])
        self.assertEqual(answer_of(reach("bbbabbbb", "a")), [1, 0, 17, 24])
        self.assertEqual(answer_of(reach("a", "bbbbabbb")), [0, 0, 0, 1])


class Taking(unittest.TestCase):
    def test_the_first_like_byte_is_taken(self):
        # Were the a at place 2 taken, two would be astray.
        self.assertEqual(answer_of(reach("abzzzz", "abayyy")), [2, 0, 5, 9])

    def test_none_is_taken_twice(self):
        # A third of (1/4 + 1/4 + 1), and of (2/4 + 2/4 + 1).
        self.assertEqual(answer_of(reach("aazz", "ayyy")), [1, 0, 1, 2])
        self.assertEqual(answer_of(reach("aazz", "aayy")), [2, 0, 2, 3])

    def test_a_like_byte_that_is_left_over_is_not_beside_any(self):
        # Of the two a of one text only the first is taken: a and b beside b and a. A third of (2/6 + 2/6 + 2/4).
        self.assertEqual(answer_of(reach("bazzzz", "abayyy")), [2, 2, 7, 18])
        self.assertEqual(answer_of(reach("abayyy", "bazzzz")), [2, 2, 7, 18])
        self.assertEqual(answer_of(reach("aabzzz", "baxxxx")), [2, 2, 7, 18])

    def test_a_zero_byte_is_taken_as_any(self):
        self.assertEqual(answer_of(reach([0, 0], [0, 1])), [1, 0, 2, 3])
