"""words: what it costs to lay the words beside one another, and beside which each stands."""

import functools
import itertools
import unittest

from tests.helper import answer_of, last_answer_of, prices, words


def priced(move, becoming, text, other):
    return last_answer_of(prices(move, becoming), words(text, other))


@functools.lru_cache(maxsize=None)
def price_of(text, other, move, becoming):
    """The least price of one word beside another, by its definition."""
    if not text or not other:
        return move * (len(text) + len(other))
    on_both = 0 if text[0] == other[0] else becoming
    return min(on_both + price_of(text[1:], other[1:], move, becoming),
               move + price_of(text[1:], other, move, becoming),
               move + price_of(text, other[1:], move, becoming))


def all_layings(count, other_count):
    """Every way, the preferred ones first."""
    choices = list(range(1, other_count + 1)) + [0]
    for way in itertools.product(choices, repeat=count):
        beside = [number for number in way if number]
        if len(set(beside)) == len(beside):
            yield list(way)


def cost_of(way, own, others, move, becoming):
    cost = sum(price_of(word, others[number - 1] if number else "", move, becoming) for word, number in zip(own, way))
    return cost + sum(move * len(other) for number, other in enumerate(others, 1) if number not in way)


def by_trying_all(own, others, move, becoming):
    ways = [(cost_of(way, own, others, move, becoming), way) for way in all_layings(len(own), len(others))]
    least = min(cost for cost, way in ways)
    return [least, len(own)] + [way for cost, way in ways if cost == least][0]


class Ordinary(unittest.TestCase):
    def test_two_names_in_another_order(self):
        # anna beside anna; meier beside mayer at 2.
        self.assertEqual(answer_of(words("anna meier", "mayer anna")), [2, 2, 2, 1])

    def test_like_texts(self):
        self.assertEqual(answer_of(words("anna meier", "anna meier")), [0, 2, 1, 2])

    def test_one_word_in_each(self):
        self.assertEqual(answer_of(words("kitten", "sitting")), [3, 1, 1])

    def test_capital_letters_are_other_bytes(self):
        self.assertEqual(answer_of(words("Anna", "anna")), [1, 1, 1])

    def test_the_first_word_may_leave_its_cheapest_to_another(self):
        # In order 1 and 4; crosswise 2 and 1.
        self.assertEqual(answer_of(words("aaaaa bbaaa", "baaaa aaacc")), [3, 2, 2, 1])

    def test_five_words_in_the_reverse_order(self):
        self.assertEqual(answer_of(words("ab cd ef gh ij", "ij gh ef cd ab")), [0, 5, 5, 4, 3, 2, 1])
        # 0, 3, 2, 1 and 1.
        self.assertEqual(answer_of(words("abcd efgh ijkl mnop qrst", "qrsu mnou ijuu euuu abcd")),
                         [7, 5, 5, 4, 3, 2, 1])

    def test_five_words_of_one_byte(self):
        self.assertEqual(answer_of(words("a b c d e", "e d c b a")), [0, 5, 5, 4, 3, 2, 1])
        self.assertEqual(answer_of(words("a b c d e", "c a e b d")), [0, 5, 2, 4, 1, 5, 3])


class Blanks(unittest.TestCase):
    def test_no_word_in_either_text(self):
        for text, other in itertools.product(("", " ", " " * 24), repeat=2):
            self.assertEqual(answer_of(words(text, other)), [0, 0])

    def test_no_word_in_one(self):
        for blank in ("", " ", "   "):
            self.assertEqual(answer_of(words("ab c", blank)), [3, 2, 0, 0])
            self.assertEqual(answer_of(words(blank, "ab c")), [3, 0])

    def test_at_the_beginning_at_the_end_and_several_beside_one_another(self):
        for text in ("anna meier", " anna meier", "   anna meier", "anna meier ", "anna meier   ", "anna    meier",
                     "  anna   meier  "):
            for other in ("mayer anna", "  mayer anna", "mayer anna  ", "mayer    anna", " mayer   anna "):
                self.assertEqual(answer_of(words(text, other)), [2, 2, 2, 1])

    def test_a_single_word_among_blanks(self):
        self.assertEqual(answer_of(words(" a ", "a")), [0, 1, 1])

    def test_no_byte_but_32_parts_words(self):
        for byte in (0, 9, 10, 11, 12, 13, 31, 33, 64, 96, 160, 255):
            self.assertEqual(answer_of(words([97, byte, 98], [97, byte, 98])), [0, 1, 1])
        self.assertEqual(answer_of(words([97, 32, 98], [97, 32, 98])), [0, 2, 1, 2])

    def test_parted_words_are_not_put_together(self):
        # ab beside either a or b at 1, and 1 for the one left over.
        self.assertEqual(answer_of(words("ab", "a b")), [2, 1, 1])
        self.assertEqual(answer_of(words("a b", "ab")), [2, 2, 1, 0])


class MoreOnOneSide(unittest.TestCase):
    def test_in_the_first_text(self):
        self.assertEqual(answer_of(words("a b c", "c")), [2, 3, 0, 0, 1])
        self.assertEqual(answer_of(words("a b c d e", "d b")), [3, 5, 0, 2, 0, 1, 0])

    def test_in_the_second_text(self):
        self.assertEqual(answer_of(words("c", "a b c")), [2, 1, 3])
        self.assertEqual(answer_of(words("d b", "a b c d e")), [3, 2, 4, 2])

    def test_each_byte_left_over_counts(self):
        self.assertEqual(answer_of(words("meier", "anna meier")), [4, 1, 2])
        self.assertEqual(answer_of(words("anna meier", "meier")), [4, 2, 0, 1])

    def test_a_word_that_is_cheaper_beside_nothing(self):
        # zz beside ab: 2, and 2 for the ab that is left over; beside nothing: 2, and nothing more.
        self.assertEqual(answer_of(words("zz ab", "ab")), [2, 2, 0, 1])
        # abc beside abcd: 1, and 4 for the abcd that is left over; beside nothing: 3.
        self.assertEqual(answer_of(words("abc abcd", "abcd")), [3, 2, 0, 1])


class TheFirstOfSeveral(unittest.TestCase):
    def test_beside_the_earlier_word(self):
        self.assertEqual(answer_of(words("a b", "c d")), [2, 2, 1, 2])
        self.assertEqual(answer_of(words("a a", "a a")), [0, 2, 1, 2])
        self.assertEqual(answer_of(words("ab", "ab ab")), [2, 1, 1])
        self.assertEqual(answer_of(words("a b c d e", "v w x y z")), [5, 5, 1, 2, 3, 4, 5])

    def test_beside_nothing_is_last(self):
        self.assertEqual(answer_of(words("a b", "x")), [2, 2, 1, 0])
        self.assertEqual(answer_of(words("a a a", "a a")), [1, 3, 1, 2, 0])
        # Beside one another or beside nothing, each byte costs 1.
        self.assertEqual(priced(1, 2, "a", "b"), [2, 1, 1])
        self.assertEqual(priced(1, 9, "a b", "c"), [3, 2, 1, 0])
        self.assertEqual(priced(1, 9, "a b", "c d"), [4, 2, 1, 2])

    def test_a_later_word_decides_where_the_first_must_stand(self):
        # x stands beside the third at nothing; a and b may stand either way.
        self.assertEqual(answer_of(words("x a b", "y z x")), [2, 3, 3, 1, 2])

    def test_a_dearer_way_does_not_count_though_it_is_earlier(self):
        self.assertEqual(answer_of(words("a b c", "b c a")), [0, 3, 3, 1, 2])


class AtPrices(unittest.TestCase):
    def test_bytes_that_become_others(self):
        self.assertEqual(priced(2, 3, "anna meier", "mayer anna"), [6, 2, 2, 1])
        self.assertEqual(priced(9, 1, "anna meier", "mayer anna"), [2, 2, 2, 1])

    def test_bytes_beside_nothing(self):
        self.assertEqual(priced(4, 1, "ab c", ""), [12, 2, 0, 0])
        self.assertEqual(priced(4, 1, "", "ab c"), [12, 0])
        self.assertEqual(priced(5, 1, "a bb", "bb"), [5, 2, 0, 1])
        self.assertEqual(priced(5, 1, "bb", "a bb"), [5, 1, 2])

    def test_going_and_coming_may_be_cheaper_than_becoming(self):
        self.assertEqual(priced(2, 9, "ab", "ac"), [4, 1, 1])

    def test_prices_say_which_way_is_the_cheapest(self):
        # In order two bytes become others; crosswise one comes and one goes.
        text, other = "ab xbc", "xb abc"
        self.assertEqual(priced(3, 2, text, other), [4, 2, 1, 2])
        self.assertEqual(priced(2, 2, text, other), [4, 2, 1, 2])
        self.assertEqual(priced(2, 3, text, other), [4, 2, 2, 1])

    def test_they_may_change_within_a_line(self):
        text, other = "ab xbc", "xb abc"
        self.assertEqual(last_answer_of(words(text, other), prices(2, 3), words(text, other)), [4, 2, 2, 1])


class AgainstTryingAll(unittest.TestCase):
    def check(self, own, others, move, becoming):
        told = by_trying_all(own, others, move, becoming)
        self.assertEqual(priced(move, becoming, " ".join(own), " ".join(others)), told, (own, others, move, becoming))

    def test_up_to_three_words(self):
        rows = [row for size in range(4) for row in itertools.product(("a", "ab", "ba"), repeat=size)]
        for own, others in itertools.product(rows, repeat=2):
            for move, becoming in ((1, 1), (2, 3), (3, 2)):
                self.check(own, others, move, becoming)

    def test_up_to_five_words(self):
        rows = (("ab", "ba", "abc", "b", "aab"), ("cab", "b", "ab", "aa", "bb"), ("a", "b", "a", "b", "a"),
                ("abc", "acb", "bac", "bca", "cab"), ("aaaa", "b", "cc", "dda"), ("c", "bb", "aaa"), ("bcaab", "cab"))
        for own, others in itertools.product(rows, repeat=2):
            for move, becoming in ((1, 1), (1, 9), (9, 1)):
                self.check(own, others, move, becoming)
