"""pieces: how many are in common, how many each text has, how alike."""

import unittest

from tests.helper import answer_of, pieces


class Ordinary(unittest.TestCase):
    def test_one_in_common(self):
        self.assertEqual(answer_of(pieces(2, "night", "nacht")), [1, 4, 4, 1, 4])

    def test_other_lengths_of_pieces(self):
        # n, h and t; then hte; then the whole text alone.
        self.assertEqual(answer_of(pieces(1, "night", "nacht")), [3, 5, 5, 3, 5])
        self.assertEqual(answer_of(pieces(3, "nighte", "nachte")), [1, 4, 4, 1, 4])
        self.assertEqual(answer_of(pieces(4, "abcde", "bcdef")), [1, 2, 2, 1, 2])

    def test_none_in_common(self):
        self.assertEqual(answer_of(pieces(2, "ab", "ba")), [0, 1, 1, 0, 1])

    def test_like_texts(self):
        self.assertEqual(answer_of(pieces(2, "meier", "meier")), [4, 4, 4, 1, 1])

    def test_where_a_piece_stands_does_not_matter(self):
        self.assertEqual(answer_of(pieces(2, "abxx", "yyab")), [1, 3, 3, 1, 3])

    def test_each_text_has_its_own_count_in_their_order(self):
        self.assertEqual(answer_of(pieces(2, "abcd", "ab")), [1, 3, 1, 1, 2])
        self.assertEqual(answer_of(pieces(2, "ab", "abcd")), [1, 1, 3, 1, 2])


class Short(unittest.TestCase):
    def test_neither_has_any(self):
        for text, other in (("", ""), ("a", ""), ("a", "a"), ("ab", "xy")):
            self.assertEqual(answer_of(pieces(3, text, other)), [0, 0, 0, 1, 1])

    def test_one_has_none(self):
        self.assertEqual(answer_of(pieces(3, "ab", "abc")), [0, 0, 1, 0, 1])
        self.assertEqual(answer_of(pieces(3, "abcd", "ab")), [0, 2, 0, 0, 1])
        self.assertEqual(answer_of(pieces(1, "", "abc")), [0, 0, 3, 0, 1])

    def test_a_text_as_long_as_a_piece(self):
        self.assertEqual(answer_of(pieces(3, "abc", "abc")), [1, 1, 1, 1, 1])


class SeveralTimes(unittest.TestCase):
    def test_in_one_text(self):
        self.assertEqual(answer_of(pieces(1, "aaa", "abc")), [1, 3, 3, 1, 3])
        self.assertEqual(answer_of(pieces(1, "abc", "aaa")), [1, 3, 3, 1, 3])

    def test_in_both(self):
        self.assertEqual(answer_of(pieces(2, "aaaa", "aaa")), [2, 3, 2, 4, 5])
        self.assertEqual(answer_of(pieces(2, "aaa", "aaaa")), [2, 2, 3, 4, 5])
        self.assertEqual(answer_of(pieces(1, "aab", "abb")), [2, 3, 3, 2, 3])

    def test_pieces_overlap(self):
        # aba, bab, aba beside bab, aba, bab.
        self.assertEqual(answer_of(pieces(3, "ababa", "babab")), [2, 3, 3, 2, 3])
