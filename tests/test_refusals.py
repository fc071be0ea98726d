"""Points 1 and 2: what is refused, just inside and just outside, and that a refusal leaves all as it was."""

import unittest

from tests.helper import (answer_of, answers_of, changes, classes, counts, keep, keep_all, last_answer_of, likest, near,
                          pieces, prices, reach, sounding, sounds, words)

MOST = 4294967295
LONGEST = [97] * 24
TOO_LONG = [97] * 25
BAD_TEXTS = (TOO_LONG, [97] * 30, [256], [97, 256, 97], [97, MOST], [256] * 25)


class Prices(unittest.TestCase):
    def test_one_to_nine_is_granted_in_either_place(self):
        for price in range(1, 10):
            self.assertEqual(answer_of(prices(price, 1)), [0])
            self.assertEqual(answer_of(prices(1, price)), [0])
        self.assertEqual(answer_of(prices(9, 9)), [0])

    def test_others_are_refused_in_either_place(self):
        for price in (0, 10, MOST):
            self.assertEqual(answer_of(prices(price, 1)), [-1])
            self.assertEqual(answer_of(prices(1, price)), [-1])
            self.assertEqual(answer_of(prices(price, price)), [-1])

    def test_at_first_both_are_one(self):
        self.assertEqual(answers_of(changes("a", ""), changes("", "a"), changes("a", "b")),
                         [[1, 1, 1, 2], [1, 1, 1, 3, 97], [1, 1, 1, 1, 98]])

    def test_a_granted_one_holds_from_then_on(self):
        self.assertEqual(
            answers_of(changes("a", "b"), prices(9, 7), changes("a", "b"), changes("a", ""), changes("", "a"),
                       prices(3, 5), changes("a", "b"), changes("a", "")),
            [[1, 1, 1, 1, 98], [0], [7, 1, 1, 1, 98], [9, 1, 1, 2], [9, 1, 1, 3, 97],
             [0], [5, 1, 1, 1, 98], [3, 1, 1, 2]])

    def test_a_refused_one_leaves_both_as_they_were(self):
        for refused in (prices(0, 8), prices(10, 8), prices(8, 0), prices(8, 10)):
            self.assertEqual(answers_of(prices(5, 6), refused, changes("a", "b"), changes("a", "")),
                             [[0], [-1], [6, 1, 1, 1, 98], [5, 1, 1, 2]])


class Classes(unittest.TestCase):
    def test_just_twenty_six_are_granted(self):
        for count in (0, 1, 25, 27, 40):
            self.assertEqual(answer_of(classes([1] * count)), [-1], count)
        self.assertEqual(answer_of(classes([1] * 26)), [0])

    def test_nine_is_granted_and_ten_is_refused_at_each_place(self):
        for place in range(26):
            numbers = [0] * 26
            numbers[place] = 9
            self.assertEqual(answer_of(classes(numbers)), [0])
            numbers[place] = 10
            self.assertEqual(answer_of(classes(numbers)), [-1])
        self.assertEqual(answer_of(classes([MOST] * 26)), [-1])

    def test_a_granted_one_holds_from_then_on(self):
        rising = [letter % 10 for letter in range(26)]
        self.assertEqual(answers_of(sounds(4, "zabz"), classes(rising), sounds(4, "zabz"),
                                    classes([9] * 25 + [8]), sounds(4, "zabz"), sounds(4, "ZABZ")),
                         [[4, 122, 1, 2, 0], [0], [4, 122, 1, 5, 0], [0], [4, 122, 9, 8, 0], [4, 122, 9, 8, 0]])

    def test_a_refused_one_leaves_all_as_they_were(self):
        for numbers in ([], [7] * 25, [7] * 27, [7] * 25 + [10], [10] + [7] * 25):
            self.assertEqual(answers_of(classes(numbers), sounds(3, "abc")), [[-1], [3, 97, 1, 2]])
            self.assertEqual(answers_of(classes([0, 8] + [4] * 24), classes(numbers), sounds(3, "abc")),
                             [[0], [-1], [3, 97, 8, 4]])


class Texts(unittest.TestCase):
    def test_twenty_four_bytes_are_granted(self):
        self.assertEqual(answer_of(changes(LONGEST, LONGEST)), [0, 1, 24] + [0] * 24)
        self.assertEqual(answer_of(reach(LONGEST, LONGEST)), [24, 0, 1, 1])
        self.assertEqual(answer_of(pieces(1, LONGEST, LONGEST)), [24, 24, 24, 1, 1])
        self.assertEqual(answer_of(sounds(1, LONGEST)), [1, 97])

    def test_a_byte_of_255_is_granted(self):
        self.assertEqual(answer_of(changes([255], [255])), [0, 1, 1, 0])
        self.assertEqual(answer_of(reach([255], [255])), [1, 0, 1, 1])
        self.assertEqual(answer_of(pieces(1, [255], [255])), [1, 1, 1, 1, 1])
        self.assertEqual(answer_of(sounds(1, [255])), [0])

    def test_others_are_refused_as_either_text(self):
        for bad in BAD_TEXTS:
            for good in ([], [97], LONGEST):
                for text, other in ((bad, good), (good, bad), (bad, bad)):
                    self.assertEqual(answer_of(changes(text, other)), [-1])
                    self.assertEqual(answer_of(reach(text, other)), [-1])
                    self.assertEqual(answer_of(pieces(1, text, other)), [-1])
            self.assertEqual(answer_of(sounds(1, bad)), [-1])

    def test_a_refused_call_leaves_all_as_it_was(self):
        held = [changes("a", "b"), changes("a", ""), sounds(3, "abc")]
        told = [[3, 1, 1, 1, 98], [2, 1, 1, 2], [3, 97, 8, 4]]
        for refused in (changes(TOO_LONG, []), reach([], [256]), pieces(5, "a", "a"), sounds(9, "a")):
            self.assertEqual(answers_of(prices(2, 3), classes([0, 8] + [4] * 24), refused, *held),
                             [[0], [0], [-1]] + told)


class Lengths(unittest.TestCase):
    def test_q_is_one_to_four(self):
        self.assertEqual(answer_of(pieces(1, "abcd", "abcd")), [4, 4, 4, 1, 1])
        self.assertEqual(answer_of(pieces(4, "abcd", "abcd")), [1, 1, 1, 1, 1])
        for q in (0, 5, MOST):
            self.assertEqual(answer_of(pieces(q, "abcd", "abcd")), [-1])
            self.assertEqual(answer_of(pieces(q, "", "")), [-1])

    def test_n_is_one_to_eight(self):
        self.assertEqual(answer_of(sounds(1, "robert")), [1, 114])
        self.assertEqual(answer_of(sounds(8, "robert")), [8, 114, 1, 6, 3, 0, 0, 0, 0])
        for n in (0, 9, MOST):
            self.assertEqual(answer_of(sounds(n, "robert")), [-1])
            self.assertEqual(answer_of(sounds(n, "")), [-1])

    def test_n_is_one_to_eight_in_sounding_too(self):
        self.assertEqual(last_answer_of(keep("robert"), sounding(1, "rubin")), [1, 1])
        self.assertEqual(last_answer_of(keep("robert"), sounding(8, "rupert")), [1, 1])
        for n in (0, 9, MOST):
            self.assertEqual(last_answer_of(keep("robert"), sounding(n, "robert")), [-1])
            self.assertEqual(answer_of(sounding(n, "")), [-1])
            self.assertEqual(answer_of(sounding(n, TOO_LONG)), [-1])


class Words(unittest.TestCase):
    def test_twenty_four_bytes_and_a_byte_of_255_are_granted(self):
        self.assertEqual(answer_of(words(LONGEST, LONGEST)), [0, 1, 1])
        self.assertEqual(answer_of(words(LONGEST, [])), [24, 1, 0])
        self.assertEqual(answer_of(words([], LONGEST)), [24, 0])
        self.assertEqual(answer_of(words([255], [255])), [0, 1, 1])
        self.assertEqual(answer_of(words([32] * 24, [32] * 24)), [0, 0])

    def test_others_are_refused_as_either_text(self):
        for bad in BAD_TEXTS + ([32] * 25,):
            for good in ([], [97], LONGEST):
                for text, other in ((bad, good), (good, bad), (bad, bad)):
                    self.assertEqual(answer_of(words(text, other)), [-1])

    def test_five_words_are_granted_in_either_text(self):
        self.assertEqual(answer_of(words("a b c d e", "a")), [4, 5, 1, 0, 0, 0, 0])
        self.assertEqual(answer_of(words("a", "a b c d e")), [4, 1, 1])
        self.assertEqual(answer_of(words("  a  b  c  d  e  ", "a b c d e")), [0, 5, 1, 2, 3, 4, 5])

    def test_six_words_and_more_are_refused_in_either_text(self):
        for many in ("a b c d e f", " a b  c d e f ", "a " * 12):
            for few in ("", "a", "a b c d e", many):
                self.assertEqual(answer_of(words(many, few)), [-4])
                self.assertEqual(answer_of(words(few, many)), [-4])

    def test_a_text_refused_for_its_bytes_is_told_first(self):
        six = list(b"a b c d e f")
        for bad in (six + [256], six + [97] * 14, [256, 32] * 6, [97, 32] * 15):
            for text, other in ((bad, []), ([], bad), (bad, six), (six, bad), (bad, bad)):
                self.assertEqual(answer_of(words(text, other)), [-1])
        for bad in BAD_TEXTS:
            self.assertEqual(answer_of(words(six, bad)), [-1])
            self.assertEqual(answer_of(words(bad, six)), [-1])


class Kept(unittest.TestCase):
    def test_twenty_four_bytes_are_granted(self):
        self.assertEqual(answers_of(keep(LONGEST), near(0, LONGEST), sounding(1, LONGEST), likest(LONGEST)),
                         [[1], [1, 1, 0], [1, 1], [1, 1, 1]])

    def test_a_byte_of_255_is_granted(self):
        self.assertEqual(answers_of(keep([255]), near(0, [255]), sounding(1, [255]), likest([255])),
                         [[1], [1, 1, 0], [1, 1], [1, 1, 1]])

    def test_others_are_refused(self):
        for bad in BAD_TEXTS:
            for k in (0, 1, MOST):
                self.assertEqual(answers_of(keep("a"), near(k, bad)), [[1], [-1]])
            self.assertEqual(answers_of(keep(bad), keep("a"), keep(bad), sounding(1, bad), likest(bad)),
                             [[-1], [1], [-1], [-1], [-1]])

    def test_near_and_sounding_are_refused_though_nothing_is_kept(self):
        for bad in BAD_TEXTS:
            self.assertEqual(answers_of(near(0, bad), sounding(1, bad)), [[-1], [-1]])

    def test_twelve_are_granted_and_no_more(self):
        self.assertEqual(answers_of(*keep_all("abcdefghijkl"), keep("m"), keep(""), keep("a")),
                         [[number] for number in range(1, 13)] + [[-6]] * 3)

    def test_a_text_that_is_refused_when_twelve_are_kept(self):
        for bad in BAD_TEXTS:
            self.assertEqual(last_answer_of(*keep_all("abcdefghijkl"), keep(bad)), [-1])

    def test_likest_with_nothing_kept(self):
        for text in ([], [97], LONGEST):
            self.assertEqual(answer_of(likest(text)), [-3])
        self.assertEqual(answers_of(keep(TOO_LONG), likest("a"), keep("a"), likest("a")), [[-1], [-3], [1], [1, 1, 1]])

    def test_a_text_that_is_refused_when_nothing_is_kept(self):
        for bad in BAD_TEXTS:
            self.assertEqual(answer_of(likest(bad)), [-1])


class AllIsAsItWas(unittest.TestCase):
    HELD = (counts(), near(9, "ab"), likest("ab"), sounding(3, "ab"), words("a", ""))

    def check(self, ahead, refused, told):
        without = answers_of(*ahead, *self.HELD)
        answered = answers_of(*ahead, refused, *self.HELD)
        self.assertEqual(answered[len(ahead)], [told])
        self.assertEqual(answered[:len(ahead)] + answered[len(ahead) + 1:], without)

    def test_with_two_kept(self):
        ahead = (prices(2, 3), classes([0, 8] + [4] * 24), keep("ac"), keep("ab"))
        for refused in (words(TOO_LONG, []), words([], [256]), keep(TOO_LONG), keep([256]), near(9, TOO_LONG),
                        near(9, [256]), sounding(0, "ab"), sounding(9, "ab"), sounding(3, TOO_LONG),
                        likest(TOO_LONG), likest([256]), prices(0, 9), prices(9, 10), classes([1] * 25)):
            self.check(ahead, refused, -1)
        self.check(ahead, words("a b c d e f", "a"), -4)
        self.check(ahead, words("a", "a b c d e f"), -4)

    def test_with_twelve_kept(self):
        ahead = [prices(2, 3)] + keep_all("abcdefghijkl")
        self.check(ahead, keep("ab"), -6)
        self.check(ahead, keep(TOO_LONG), -1)

    def test_with_nothing_kept(self):
        self.check((prices(2, 3),), likest("ab"), -3)
        self.check((prices(2, 3),), keep([256]), -1)

    def test_what_is_told_behind_refused_ones(self):
        self.assertEqual(
            answers_of(keep("ab"), keep(TOO_LONG), prices(10, 9), counts(), near(0, "ab"), keep("ac"), near(1, "ac"),
                       likest("ac")),
            [[1], [-1], [-1], [1, 1, 1], [1, 1, 0], [2], [2, 2, 0, 1, 1], [2, 1, 1]])
