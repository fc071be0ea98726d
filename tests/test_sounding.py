"""sounding: which of those kept sound the same, in n numbers."""

import unittest

from tests.helper import answer_of, answers_of, classes, keep, keep_all, last_answer_of, prices, sounding


class Ordinary(unittest.TestCase):
    def test_names(self):
        # r 1 6 3, the same, r 1 5, and r 1 6 3 once more.
        kept = keep_all(("robert", "rupert", "rubin", "rabbert"))
        self.assertEqual(last_answer_of(*kept, sounding(4, "robert")), [3, 1, 2, 4])
        self.assertEqual(last_answer_of(*kept, sounding(4, "ruben")), [1, 3])
        self.assertEqual(last_answer_of(*kept, sounding(4, "anna")), [0])

    def test_the_first_letter_counts_by_itself(self):
        # c and k have one class, but they are two letters.
        self.assertEqual(last_answer_of(*keep_all(("kat", "cat")), sounding(3, "cad")), [1, 2])

    def test_all_twelve_rising(self):
        self.assertEqual(last_answer_of(*keep_all(["ab", "ap"] * 6), sounding(2, "af")), [12] + list(range(1, 13)))

    def test_prices_do_not_matter(self):
        self.assertEqual(last_answer_of(keep("robert"), prices(9, 9), sounding(4, "rupert")), [1, 1])


class Edges(unittest.TestCase):
    def test_nothing_kept(self):
        self.assertEqual(answer_of(sounding(4, "robert")), [0])
        self.assertEqual(answer_of(sounding(4, "")), [0])

    def test_texts_with_no_letter_sound_all_the_same(self):
        kept = keep_all(("", "a", "12", " ", [0, 255]))
        for text in ("", "--", " ", [64, 91, 96, 123]):
            for n in (1, 8):
                self.assertEqual(last_answer_of(*kept, sounding(n, text)), [4, 1, 3, 4, 5])

    def test_a_text_with_letters_does_not_sound_like_nothing(self):
        kept = keep_all(("", "a", "12", "aeo"))
        self.assertEqual(last_answer_of(*kept, sounding(3, "a")), [2, 2, 4])
        self.assertEqual(last_answer_of(*kept, classes([0] * 26), sounding(8, "a")), [2, 2, 4])

    def test_capital_and_small_letters(self):
        kept = keep_all(("ROBERT", "robert", "rObErT"))
        self.assertEqual(last_answer_of(*kept, sounding(4, "Rupert")), [3, 1, 2, 3])
        self.assertEqual(last_answer_of(*kept, sounding(4, "rupert")), [3, 1, 2, 3])

    def test_other_bytes_are_passed_over(self):
        self.assertEqual(last_answer_of(*keep_all(("r-o b.ert", "7robert")), sounding(4, " robert ")), [2, 1, 2])


class HowMany(unittest.TestCase):
    def test_few_numbers_are_the_same_and_more_are_not(self):
        # r 1 6 3 and r 1 5.
        kept = keep_all(("robert", "rubin"))
        self.assertEqual(last_answer_of(*kept, sounding(1, "ro")), [2, 1, 2])
        self.assertEqual(last_answer_of(*kept, sounding(2, "robert")), [2, 1, 2])
        self.assertEqual(last_answer_of(*kept, sounding(3, "robert")), [1, 1])

    def test_noughts_fill_up(self):
        self.assertEqual(last_answer_of(*keep_all(("r", "roe", "rob")), sounding(8, "ra")), [2, 1, 2])

    def test_what_is_beyond_eight_does_not_count(self):
        # a 1 3 1 3 1 3 1, one of them with a 3 more; the third lacks the last 1.
        kept = keep_all(("abdbdbdbd", "abdbdbdb", "abdbdbd"))
        self.assertEqual(last_answer_of(*kept, sounding(8, "abdbdbdb")), [2, 1, 2])
        self.assertEqual(last_answer_of(*kept, sounding(7, "abdbdbdb")), [3, 1, 2, 3])


class OtherClasses(unittest.TestCase):
    def test_changed_between_keep_and_sounding(self):
        first = [0, 1, 2, 3, 0, 1, 2, 0, 0, 2, 2, 4, 5, 5, 0, 1, 2, 6, 2, 3, 0, 1, 0, 2, 0, 2]
        self.assertEqual(answers_of(keep("ab"), keep("ad"), sounding(2, "ab"), classes([0] + [7] * 25),
                                    sounding(2, "ab"), classes([0] * 26), sounding(2, "a"), classes(first),
                                    sounding(2, "ad"), sounding(2, "a")),
                         [[1], [2], [1, 1], [0], [2, 1, 2], [0], [2, 1, 2], [0], [1, 2], [0]])
