"""Points 5 to 8 for sharepack.pairing: pairs, codes and cost."""

import unittest
from itertools import product

from sharepack import pairing as module
from sharepack.pairing import codes, cost, pairs
from tests.helper import GREAT, TAKEN_SHARES, WRONG_SHARES, PackCase, pairs_by_words, ways_by_words

SMALL = [list(shares) for many in range(1, 6) for shares in product([1, 2, 3, 4], repeat=many)]

# Shares that grow so fast that each pair takes the one before it: the codes get as long as they can.
STEEP = [2 ** at for at in range(40)]


class PairsTest(PackCase):
    def test_two_signs(self):
        self.assertEqual(self.told(pairs, [1, 2]), [(0, 1)])
        self.assertEqual(self.told(pairs, [2, 1]), [(1, 0)])

    def test_two_of_one_weight_the_lesser_number_first(self):
        self.assertEqual(pairs([3, 3]), [(0, 1)])
        self.assertEqual(pairs([2, 1, 1]), [(1, 2), (0, 3)])

    def test_the_least_weights_first(self):
        self.assertEqual(pairs([5, 9, 12, 13, 16, 45]), [(0, 1), (2, 3), (6, 4), (7, 8), (5, 9)])
        self.assertEqual(pairs([45, 16, 13, 12, 9, 5]), [(5, 4), (3, 2), (6, 1), (7, 8), (0, 9)])

    def test_a_pair_that_ties_with_a_sign_counts_as_more(self):
        self.assertEqual(pairs([1, 1, 2]), [(0, 1), (2, 3)])
        self.assertEqual(pairs([2, 1, 1, 2]), [(1, 2), (0, 3), (4, 5)])
        self.assertEqual(pairs([1, 2, 3]), [(0, 1), (2, 3)])

    def test_a_pair_that_ties_with_a_pair(self):
        self.assertEqual(pairs([1, 2, 1, 2]), [(0, 2), (1, 3), (4, 5)])
        self.assertEqual(pairs([2, 2, 1, 3]), [(2, 0), (1, 3), (4, 5)])

    def test_all_shares_equal(self):
        self.assertEqual(pairs([1, 1, 1]), [(0, 1), (2, 3)])
        self.assertEqual(pairs([6, 6, 6, 6]), [(0, 1), (2, 3), (4, 5)])
        self.assertEqual(pairs([2] * 5), [(0, 1), (2, 3), (4, 5), (6, 7)])

    def test_numbers_of_two_figures_are_compared_as_numbers(self):
        self.assertEqual(pairs([1] * 12)[:6], [(0, 1), (2, 3), (4, 5), (6, 7), (8, 9), (10, 11)])

    def test_one_sign_alone_makes_no_pair(self):
        for share in (1, 7, GREAT):
            self.assertEqual(self.told(pairs, [share]), [])

    def test_forty_equal_signs(self):
        by_two = [(at, at + 1) for at in range(0, 74, 2)]
        expected = by_two + [(74, 75), (76, 77)]
        self.assertEqual(self.told(pairs, [1] * 40), expected)

    def test_great_shares(self):
        self.assertEqual(pairs([GREAT] * 40), pairs([1] * 40))
        self.assertEqual(pairs([GREAT, GREAT - 1, GREAT]), [(1, 0), (2, 3)])
        self.assertEqual(pairs([GREAT, GREAT - 1, 1]), [(2, 1), (0, 3)])

    def test_forty_steep_shares(self):
        self.assertEqual(self.told(pairs, STEEP), [(0, 1)] + [(38 + at, at) for at in range(2, 40)])

    def test_small_ones_against_the_words_of_the_document(self):
        for shares in SMALL:
            with self.subTest(shares=shares):
                self.assertEqual(self.told(pairs, shares), pairs_by_words(shares))

    def test_long_ones_against_the_words_of_the_document(self):
        for step in range(1, 60):
            shares = [1 + at * at * step // 3 + at * step % 17 for at in range(step % 40 + 1)]
            for row in (shares, shares[::-1]):
                with self.subTest(shares=row):
                    self.assertEqual(self.told(pairs, row), pairs_by_words(row))

    def test_a_list_of_tuples_of_whole_numbers_is_told(self):
        answer = pairs([3, 1, 2])
        self.assertIs(type(answer), list)
        self.assertEqual([type(pair) for pair in answer], [tuple, tuple])
        self.assertEqual([type(node) for pair in answer for node in pair], [int] * 4)


class CodesTest(PackCase):
    def test_a_first_is_a_0_and_an_other_a_1(self):
        self.assertEqual(self.told(codes, [1, 2]), ["0", "1"])
        self.assertEqual(self.told(codes, [2, 1]), ["1", "0"])

    def test_the_codes_go_from_the_top_down_in_the_order_of_the_signs(self):
        self.assertEqual(self.told(codes, [4, 3, 2]), ["0", "11", "10"])
        self.assertEqual(codes([5, 9, 12, 13, 16, 45]), ["1100", "1101", "100", "101", "111", "0"])
        self.assertEqual(codes([1, 1, 1, 1]), ["00", "01", "10", "11"])
        self.assertEqual(codes([1, 1, 2]), ["10", "11", "0"])

    def test_one_sign_alone_has_the_empty_text(self):
        self.assertEqual(self.told(codes, [1]), [""])
        self.assertEqual(self.told(codes, [GREAT]), [""])

    def test_forty_steep_shares(self):
        expected = ["0" * 39] + ["0" * (39 - at) + "1" for at in range(1, 40)]
        self.assertEqual(self.told(codes, STEEP), expected)

    def test_forty_equal_shares(self):
        lengths = [len(word) for word in self.told(codes, [1] * 40)]
        self.assertEqual(lengths, [6] * 16 + [5] * 24)

    def test_against_the_words_of_the_document(self):
        for shares in SMALL + TAKEN_SHARES + [STEEP]:
            with self.subTest(shares=shares):
                self.assertEqual(self.told(codes, shares), ways_by_words(shares))

    def test_no_code_begins_another_one(self):
        for shares in SMALL + TAKEN_SHARES + [STEEP]:
            with self.subTest(shares=shares):
                self.check_apart(codes(shares))

    def check_apart(self, words):
        for at, word in enumerate(words):
            for other in words[:at] + words[at + 1:]:
                self.assertFalse(other.startswith(word))

    def test_a_list_of_texts_is_told(self):
        for shares in ([3], [3, 1, 2]):
            answer = codes(shares)
            self.assertIs(type(answer), list)
            self.assertEqual([type(word) for word in answer], [str] * len(shares))


class CostTest(PackCase):
    def test_each_share_times_the_length_of_its_code(self):
        self.assertEqual(self.told(cost, [1, 2]), 3)
        self.assertEqual(self.told(cost, [4, 3, 2]), 4 + 6 + 4)
        self.assertEqual(self.told(cost, [5, 9, 12, 13, 16, 45]), 224)

    def test_one_sign_alone_costs_nothing(self):
        self.assertEqual(self.told(cost, [1]), 0)
        self.assertEqual(self.told(cost, [GREAT]), 0)

    def test_forty_signs_and_great_shares(self):
        self.assertEqual(cost([1] * 40), 16 * 6 + 24 * 5)
        self.assertEqual(cost([GREAT] * 40), (16 * 6 + 24 * 5) * GREAT)
        self.assertEqual(cost(STEEP), 39 + sum(2 ** at * (40 - at) for at in range(1, 40)))

    def test_it_goes_with_the_codes(self):
        for shares in SMALL:
            with self.subTest(shares=shares):
                by_codes = 0
                for share, word in zip(shares, codes(shares)):
                    by_codes += share * len(word)
                self.assertEqual(self.told(cost, shares), by_codes)

    def test_no_row_of_code_lengths_costs_less(self):
        for many in range(2, 6):
            rows = lengths_of_codes(many)
            for shares in product([1, 2, 3, 7], repeat=many):
                least = min(sum(share * length for share, length in zip(shares, row)) for row in rows)
                with self.subTest(shares=shares):
                    self.assertEqual(cost(list(shares)), least)

    def test_no_row_of_code_lengths_costs_less_for_six_shares(self):
        rows = lengths_of_codes(6)
        for shares in ([1, 1, 2, 3, 5, 8], [5, 9, 12, 13, 16, 45], [1] * 6, [9, 1, 1, 9, 1, 1],
                       [GREAT, 1, 2, 4, 8, 16]):
            least = min(sum(share * length for share, length in zip(shares, row)) for row in rows)
            with self.subTest(shares=shares):
                self.assertEqual(cost(shares), least)

    def test_a_whole_number_is_told(self):
        self.assertIs(type(cost([3])), int)
        self.assertIs(type(cost([3, 1])), int)


def lengths_of_codes(many):
    """Every row of lengths, up to as many as there are signs, of codes of which none begins another one.

    Such codes take up no more than all there is, 1 in 2 ** length for each, and wherever that holds there are some.
    """
    room = 2 ** many
    return [row for row in product(range(1, many + 1), repeat=many)
            if sum(room // 2 ** length for length in row) <= room]


class RefusalTest(PackCase):
    def test_wrong_shares(self):
        for function in (pairs, codes, cost):
            for shares in WRONG_SHARES:
                with self.subTest(function=function.__name__, shares=repr(shares)[:60]):
                    self.assert_refused(function, shares)

    def test_shares_at_the_limits_are_taken(self):
        for shares in TAKEN_SHARES:
            with self.subTest(shares=shares):
                self.assertEqual(len(self.told(pairs, shares)), len(shares) - 1)
                self.assertEqual(len(self.told(codes, shares)), len(shares))
                self.assertGreaterEqual(self.told(cost, shares), 0)

    def test_each_function_is_defined_in_its_file(self):
        for function in (module.pairs, module.codes, module.cost):
            self.assertEqual(function.__module__, "sharepack.pairing")


if __name__ == "__main__":
    unittest.main()
