"""keep and counts: the numbers of those kept, both prices, how many are kept."""

import unittest

from tests.helper import (answer_of, answers_of, changes, classes, counts, keep, keep_all, last_answer_of, likest, near,
                          pieces, prices, reach, sounding, sounds, words)


class Keep(unittest.TestCase):
    def test_numbers_from_one_on(self):
        self.assertEqual(answers_of(*keep_all(("meier", "mayer", "maier"))), [[1], [2], [3]])

    def test_the_same_text_twice(self):
        self.assertEqual(answers_of(keep("a"), keep("a"), near(0, "a")), [[1], [2], [2, 1, 0, 2, 0]])

    def test_an_empty_text(self):
        self.assertEqual(answers_of(keep(""), keep(""), near(0, ""), counts()),
                         [[1], [2], [2, 1, 0, 2, 0], [1, 1, 2]])

    def test_a_text_with_no_letter_and_blanks(self):
        self.assertEqual(answers_of(keep("  "), keep([0, 255]), near(0, "  "), near(0, [0, 255])),
                         [[1], [2], [1, 1, 0], [1, 2, 0]])

    def test_twelve(self):
        texts = [[number] for number in range(12)]
        self.assertEqual(answers_of(*keep_all(texts)), [[number] for number in range(1, 13)])
        for number, text in enumerate(texts, 1):
            self.assertEqual(last_answer_of(*keep_all(texts), near(0, text)), [1, number, 0])

    def test_calls_between_do_not_count(self):
        self.assertEqual(answers_of(keep("a"), near(0, "a"), counts(), prices(2, 2), keep("b"), likest("b"), keep("c")),
                         [[1], [1, 1, 0], [1, 1, 1], [0], [2], [2, 1, 1], [3]])

    def test_nothing_is_kept_for_the_next_list(self):
        answers_of(*keep_all(("a", "b")))
        self.assertEqual(answers_of(counts(), near(9, "a"), likest("a"), keep("c")), [[1, 1, 0], [0], [-3], [1]])


class Counts(unittest.TestCase):
    def test_at_the_beginning(self):
        self.assertEqual(answer_of(counts()), [1, 1, 0])

    def test_behind_prices(self):
        self.assertEqual(answers_of(prices(2, 3), counts(), prices(9, 1), counts()), [[0], [2, 3, 0], [0], [9, 1, 0]])

    def test_behind_keep(self):
        self.assertEqual(answers_of(keep("a"), counts(), keep("a"), counts()), [[1], [1, 1, 1], [2], [1, 1, 2]])
        self.assertEqual(last_answer_of(*keep_all(["a"] * 12), counts()), [1, 1, 12])

    def test_behind_refused_ones(self):
        self.assertEqual(
            answers_of(prices(4, 5), keep("a"), prices(0, 9), prices(9, 10), keep([97] * 25), keep([256]), counts()),
            [[0], [1], [-1], [-1], [-1], [-1], [4, 5, 1]])
        self.assertEqual(last_answer_of(*keep_all(["a"] * 12), keep("b"), keep("b"), counts()), [1, 1, 12])

    def test_behind_all_others(self):
        others = (changes("a", "b"), reach("a", "b"), pieces(1, "a", "b"), classes([9] * 26), sounds(1, "a"),
                  words("a", "b"), near(9, "a"), sounding(1, "a"), likest("a"), counts())
        self.assertEqual(last_answer_of(prices(4, 5), keep("a"), *others, counts()), [4, 5, 1])
