"""The list of calls as a whole: the form of what comes back, order, and that nothing is kept or changed."""

import unittest

from alikeness.desk import answers
from tests.helper import (answers_of, changes, classes, counts, keep, keep_all, likest, near, pieces, prices, reach,
                          sounding, sounds, words)

EVERY_CALL = (
    prices(2, 3) + changes("ab", "b") + reach("ab", "ab") + pieces(2, "ab", "ab")
    + classes([9] * 26) + sounds(2, "ab") + prices(0, 1) + changes("", "a")
    + words("a b", "b ac") + keep("ab") + near(3, "ac") + sounding(2, "a") + likest("ab") + counts()
)


def round_of_twelve():
    """Each call once."""
    return [prices(2, 3), changes("ab", "b"), reach("ab", "ab"), pieces(2, "ab", "ab"), classes([9] * 26),
            sounds(2, "ab"), words("a b", "b a"), keep("ab"), near(2, "b"), sounding(2, "ab"), likest("ab"), counts()]


def told_in_round(kept):
    """What the twelve answer when so many are kept by then."""
    numbers = list(range(1, kept + 1))
    return [[0], [2, 1, 2, 2, 0], [2, 0, 1, 1], [1, 1, 1, 1, 1], [0],
            [2, 97, 0], [0, 2, 2, 1], [kept], [kept] + [part for number in numbers for part in (number, 2)],
            [kept] + numbers, [1, 1, 1], [2, 3, kept]]


class WholeList(unittest.TestCase):
    def test_one_call_has_its_count_ahead(self):
        self.assertEqual(answers([0, 2, 3]), [1, 0])
        self.assertEqual(answers([1, 0, 0]), [3, 0, 1, 0])
        self.assertEqual(answers([6, 0, 0]), [2, 0, 0])
        self.assertEqual(answers([7, 0]), [1, 1])
        self.assertEqual(answers([8, 0, 0]), [1, 0])
        self.assertEqual(answers([9, 1, 0]), [1, 0])
        self.assertEqual(answers([10, 0]), [1, -3])
        self.assertEqual(answers([11]), [3, 1, 1, 0])

    def test_a_refusal_counts_as_one_number(self):
        self.assertEqual(answers([0, 0, 3]), [1, -1])

    def test_calls_are_answered_in_order(self):
        self.assertEqual(answers(EVERY_CALL), [
            1, 0,
            5, 2, 1, 2, 2, 0,
            4, 2, 0, 1, 1,
            5, 1, 1, 1, 1, 1,
            1, 0,
            3, 2, 97, 0,
            1, -1,
            5, 2, 1, 1, 3, 97,
            4, 2, 2, 2, 1,
            1, 1,
            3, 1, 1, 3,
            2, 1, 1,
            3, 1, 1, 1,
            3, 2, 3, 1,
        ])

    def test_numbers_within_rows_are_not_taken_for_calls(self):
        self.assertEqual(answers_of(changes([0, 1, 2], [0, 1, 2]), reach([5], [5]), prices(1, 1)),
                         [[0, 1, 3, 0, 0, 0], [1, 0, 1, 1], [0]])

    def test_refused_rows_are_read_to_their_end(self):
        calls = [changes([7] * 30, [4294967295] * 30), pieces(0, [7] * 30, []), classes([1] * 40),
                 sounds(9, [7] * 30), sounds(1, "a")]
        self.assertEqual(answers_of(*calls), [[-1], [-1], [-1], [-1], [1, 97]])
        calls = [words([7] * 30, [4294967295] * 30), keep([7] * 30), near(7, [7] * 30), sounding(7, [7] * 30),
                 likest([7] * 30), counts()]
        self.assertEqual(answers_of(*calls), [[-1]] * 5 + [[1, 1, 0]])

    def test_sixty_calls(self):
        self.assertEqual(answers(sounds(1, "a") * 60), [2, 1, 97] * 60)
        self.assertEqual(answers(counts() * 60), [3, 1, 1, 0] * 60)

    def test_sixty_calls_of_all_twelve(self):
        calls = round_of_twelve() * 5
        told = [answer for kept in range(1, 6) for answer in told_in_round(kept)]
        self.assertEqual(len(calls), 60)
        self.assertEqual(answers_of(*calls), told)
        flat = [number for call in calls for number in call]
        handed = list(flat)
        self.assertEqual(answers(handed), [number for answer in told for number in [len(answer)] + answer])
        self.assertEqual(handed, flat)
        self.assertEqual(answers(handed), answers(flat))

    def test_sixty_calls_with_the_longest_texts(self):
        text, other = "abcd efgh ijkl mnop qrst", "qrst mnop ijkl efgh abcd"
        self.assertEqual(answers(words(text, other) * 60), [7, 0, 5, 5, 4, 3, 2, 1] * 60)
        told = [12] + [part for number in range(1, 13) for part in (number, 0)]
        self.assertEqual(answers_of(*keep_all([text] * 12), *[near(0, text)] * 48)[12:], [told] * 48)

    def test_the_list_handed_in_is_the_same_afterwards(self):
        handed = list(EVERY_CALL)
        answers(handed)
        self.assertEqual(handed, EVERY_CALL)

    def test_the_same_list_twice_is_answered_the_same(self):
        self.assertEqual(answers(EVERY_CALL), answers(EVERY_CALL))

    def test_nothing_is_kept_for_the_next_list(self):
        calls = (changes("a", "b"), sounds(3, "abc"), near(9, "a"), sounding(1, "a"), likest("a"), counts())
        ahead = answers_of(*calls)
        answers(prices(9, 8) + classes([9] * 26) + keep("a") + keep("b"))
        self.assertEqual(ahead, [[1, 1, 1, 1, 98], [3, 97, 1, 2], [0], [0], [-3], [1, 1, 0]])
        self.assertEqual(answers_of(*calls), ahead)

    def test_changing_the_answer_does_not_change_the_next_one(self):
        first = answers(EVERY_CALL)
        kept = list(first)
        first.clear()
        self.assertEqual(answers(EVERY_CALL), kept)

    def test_only_whole_numbers_come_back(self):
        self.assertEqual({type(number) for number in answers(EVERY_CALL)}, {int})
        self.assertIs(type(answers(EVERY_CALL)), list)
