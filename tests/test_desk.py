"""The list of calls as a whole: the form of what comes back, order, and that nothing is kept or changed."""

import unittest

from alikeness.desk import answers
from tests.helper import answers_of, changes, classes, pieces, prices, reach, sounds

EVERY_CALL = (
    prices(2, 3) + changes("ab", "b") + reach("ab", "ab") + pieces(2, "ab", "ab")
    + classes([9] * 26) + sounds(2, "ab") + prices(0, 1) + changes("", "a")
)


class WholeList(unittest.TestCase):
    def test_one_call_has_its_count_ahead(self):
        self.assertEqual(answers([0, 2, 3]), [1, 0])
        self.assertEqual(answers([1, 0, 0]), [3, 0, 1, 0])

    def test_a_refusal_counts_as_one_number(self):
        self.assertEqual(answers([0, 0, 3]), [1, -1])

    def test_calls_are_answered_in_order(self):
        self.assertEqual(answers(EVERY_CALL), [
            1, 0,
            5, 2, 1, 2, 2, 0,
            4, 2, 0, 1, 1,
            5, 1, 1, 1, 1, 1,
            1, 0,
            3, 2, 97, 0,
            1, -1,
            5, 2, 1, 1, 3, 97,
        ])

    def test_numbers_within_rows_are_not_taken_for_calls(self):
        self.assertEqual(answers_of(changes([0, 1, 2], [0, 1, 2]), reach([5], [5]), prices(1, 1)),
                         [[0, 1, 3, 0, 0, 0], [1, 0, 1, 1], [0]])

    def test_refused_rows_are_read_to_their_end(self):
        calls = [changes([7] * 30, [4294967295] * 30), pieces(0, [7] * 30, []), classes([1] * 40),
                 sounds(9, [7] * 30), sounds(1, "a")]
        self.assertEqual(answers_of(*calls), [[-1], [-1], [-1], [-1], [1, 97]])

    def test_sixty_calls(self):
        self.assertEqual(answers(sounds(1, "a") * 60), [2, 1, 97] * 60)

    def test_the_list_handed_in_is_the_same_afterwards(self):
        handed = list(EVERY_CALL)
        answers(handed)
        self.assertEqual(handed, EVERY_CALL)

    def test_the_same_list_twice_is_answered_the_same(self):
        self.assertEqual(answers(EVERY_CALL), answers(EVERY_CALL))

    def test_nothing_is_kept_for_the_next_list(self):
        ahead = answers_of(changes("a", "b"), sounds(3, "abc"))
        answers(prices(9, 8) + classes([9] * 26))
        self.assertEqual(ahead, [[1, 1, 1, 1, 98], [3, 97, 1, 2]])
        self.assertEqual(answers_of(changes("a", "b"), sounds(3, "abc")), ahead)

    def test_changing_the_answer_does_not_change_the_next_one(self):
        first = answers(EVERY_CALL)
        kept = list(first)
        first.clear()
        self.assertEqual(answers(EVERY_CALL), kept)

    def test_only_whole_numbers_come_back(self):
        self.assertEqual({type(number) for number in answers(EVERY_CALL)}, {int})
        self.assertIs(type(answers(EVERY_CALL)), list)
