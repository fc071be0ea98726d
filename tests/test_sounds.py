"""sounds: the first letter, the classes of the others, cut or filled up."""

import unittest

from tests.helper import answer_of, answers_of, classes, sounds

FIRST = [0, 1, 2, 3, 0, 1, 2, 0, 0, 2, 2, 4, 5, 5, 0, 1, 2, 6, 2, 3, 0, 1, 0, 2, 0, 2]


class Ordinary(unittest.TestCase):
    def test_two_names_that_sound_the_same(self):
        self.assertEqual(answer_of(sounds(4, "robert")), [4, 114, 1, 6, 3])
        self.assertEqual(answer_of(sounds(4, "rupert")), [4, 114, 1, 6, 3])

    def test_the_classes_at_first(self):
        for place, number in enumerate(FIRST):
            small, capital = [97 + place], [65 + place]
            # An a ahead has class 0, so that each other class is told.
            self.assertEqual(answer_of(sounds(2, [97] + small)), [2, 97, number])
            self.assertEqual(answer_of(sounds(2, [97] + capital)), [2, 97, number])
            self.assertEqual(answer_of(sounds(1, small)), [1, 97 + place])
            self.assertEqual(answer_of(sounds(1, capital)), [1, 97 + place])

    def test_capital_letters_sound_like_small_ones(self):
        self.assertEqual(answer_of(sounds(4, "RoBeRT")), [4, 114, 1, 6, 3])
        self.assertEqual(answer_of(sounds(4, "bBb")), [4, 98, 0, 0, 0])


class NoLetter(unittest.TestCase):
    def test_an_empty_text(self):
        self.assertEqual(answer_of(sounds(4, "")), [0])

    def test_other_bytes_alone(self):
        self.assertEqual(answer_of(sounds(8, "12 -.")), [0])
        self.assertEqual(answer_of(sounds(8, [0, 64, 91, 96, 123, 193, 225, 255])), [0])


class Letters(unittest.TestCase):
    def test_other_bytes_are_passed_over(self):
        self.assertEqual(answer_of(sounds(4, " 7r-o.b e'r\xe9t!")), [4, 114, 1, 6, 3])

    def test_other_bytes_do_not_part_like_classes(self):
        self.assertEqual(answer_of(sounds(4, "ab-p")), [4, 97, 1, 0, 0])

    def test_a_like_class_beside_the_first_letter_is_left_out(self):
        self.assertEqual(answer_of(sounds(4, "pfister")), [4, 112, 2, 3, 6])

    def test_a_like_class_beside_another_one_is_left_out(self):
        self.assertEqual(answer_of(sounds(5, "tymczak")), [5, 116, 5, 2, 2, 0])
        self.assertEqual(answer_of(sounds(4, "abpfvd")), [4, 97, 1, 3, 0])

    def test_class_zero_parts_like_classes(self):
        self.assertEqual(answer_of(sounds(4, "bab")), [4, 98, 1, 0, 0])
        self.assertEqual(answer_of(sounds(6, "ashcraft")), [6, 97, 2, 2, 6, 1, 3])

    def test_another_class_parts_like_classes(self):
        self.assertEqual(answer_of(sounds(4, "bdb")), [4, 98, 3, 1, 0])

    def test_a_first_letter_of_class_zero_is_told(self):
        self.assertEqual(answer_of(sounds(3, "aeo")), [3, 97, 0, 0])


class HowMany(unittest.TestCase):
    def test_what_is_too_much_is_left_out(self):
        self.assertEqual(answer_of(sounds(1, "ashcraft")), [1, 97])
        self.assertEqual(answer_of(sounds(3, "ashcraft")), [3, 97, 2, 2])

    def test_noughts_fill_up(self):
        self.assertEqual(answer_of(sounds(8, "ashcraft")), [8, 97, 2, 2, 6, 1, 3, 0, 0])
        self.assertEqual(answer_of(sounds(8, "a")), [8, 97, 0, 0, 0, 0, 0, 0, 0])

    def test_just_as_many(self):
        self.assertEqual(answer_of(sounds(4, "bdbd")), [4, 98, 3, 1, 3])


class OtherClasses(unittest.TestCase):
    def test_a_vowel_may_have_a_class(self):
        told = [7] + FIRST[1:]
        self.assertEqual(answers_of(classes(told), sounds(4, "baab")), [[0], [4, 98, 7, 1, 0]])

    def test_all_of_class_zero(self):
        self.assertEqual(answers_of(classes([0] * 26), sounds(3, "robert")), [[0], [3, 114, 0, 0]])
