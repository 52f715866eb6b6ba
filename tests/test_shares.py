"""Points 4 and 5 for sharepack.shares: counted and learnt."""

import unittest
from itertools import product

from sharepack import shares as module
from sharepack.shares import counted, learnt
from tests.helper import GREAT, NO_LISTS, NO_WHOLE_NUMBERS, WRONG_SHARES, PackCase


class CountedTest(PackCase):
    def test_signs_that_stand_there_once_often_and_not_at_all(self):
        self.assertEqual(self.told(counted, "abc", "baaa"), [3, 1, 0])

    def test_the_answer_is_in_the_order_of_the_signs(self):
        self.assertEqual(counted("cba", "abbccc"), [3, 2, 1])

    def test_the_empty_text(self):
        self.assertEqual(counted("ab", ""), [0, 0])
        self.assertEqual(counted("x", ""), [0])

    def test_signs_that_are_not_among_the_signs_count_for_none(self):
        self.assertEqual(counted("ab", "xaybzzb"), [1, 2])
        self.assertEqual(counted("ab", "xyz"), [0, 0])
        self.assertEqual(counted("ab", "AB"), [0, 0])

    def test_a_sign_that_stands_side_by_side(self):
        self.assertEqual(counted("a", "aaaa"), [4])

    def test_blank_tilde_and_signs_that_mean_something_elsewhere(self):
        self.assertEqual(counted(" ~.*\\[", "~ . ~\\ [~"), [3, 3, 1, 0, 1, 1])

    def test_a_long_text(self):
        self.assertEqual(counted("ab", "ab" * 1000), [1000, 1000])

    def test_a_list_of_whole_numbers_is_told(self):
        answer = counted("ab", "a")
        self.assertIs(type(answer), list)
        self.assertEqual([type(one) for one in answer], [int, int])

    def test_it_is_defined_in_its_file(self):
        self.assertEqual((module.counted.__module__, module.learnt.__module__), ("sharepack.shares",) * 2)


class LearntTest(PackCase):
    def test_shares_grow_where_no_halving_is_due(self):
        self.assertEqual(self.told(learnt, [1, 1, 1], [3, 1, 0], 100), [4, 2, 1])
        self.assertEqual(self.told(learnt, [7, 2], [0, 0], 9), [7, 2])

    def test_each_loses_half_rounded_down(self):
        self.assertEqual(learnt([5, 4, 1], [0, 0, 0], 9), [3, 2, 1])
        self.assertEqual(learnt([2, 3, 6, 7], [0, 0, 0, 0], 17), [1, 2, 3, 4])

    def test_the_counts_are_added_ahead_of_the_halving(self):
        self.assertEqual(self.told(learnt, [1, 1, 1], [4, 3, 0], 9), [3, 2, 1])
        self.assertEqual(learnt([3, 3], [1, 0], 6), [2, 2])

    def test_several_halvings(self):
        self.assertEqual(self.told(learnt, [20, 9, 1], [0, 0, 0], 10), [5, 3, 1])
        self.assertEqual(learnt([100, 1], [0, 0], 2), [1, 1])
        self.assertEqual(learnt([17, 33], [0, 0], 13), [3, 5])

    def test_a_cap_equal_to_the_sum_is_no_ground_to_halve(self):
        self.assertEqual(learnt([4, 5], [1, 2], 12), [5, 7])

    def test_a_cap_one_less_than_the_sum_is(self):
        self.assertEqual(learnt([4, 5], [1, 2], 11), [3, 4])

    def test_a_cap_that_one_halving_just_reaches(self):
        # 5 + 4 + 1 is halved to 3 + 2 + 1.
        self.assertEqual(learnt([5, 4, 1], [0, 0, 0], 6), [3, 2, 1])
        self.assertEqual(learnt([5, 4, 1], [0, 0, 0], 5), [2, 1, 1])

    def test_a_cap_equal_to_the_count_of_the_shares(self):
        self.assertEqual(learnt([9, 4, 1], [2, 0, 5], 3), [1, 1, 1])
        self.assertEqual(learnt([1, 1, 1], [0, 0, 0], 3), [1, 1, 1])
        self.assertEqual(learnt([8], [1], 1), [1])
        self.assertEqual(learnt([GREAT] * 40, [GREAT] * 40, 40), [1] * 40)

    def test_small_ones_against_the_words_of_the_document(self):
        for shares in product([1, 2, 5], repeat=2):
            for counts in product([0, 1, 6], repeat=2):
                for cap in range(2, 25):
                    with self.subTest(shares=shares, counts=counts, cap=cap):
                        self.check_by_words(list(shares), list(counts), cap)

    def check_by_words(self, shares, counts, cap):
        expected = [shares[0] + counts[0], shares[1] + counts[1]]
        while expected[0] + expected[1] > cap:
            for at in (0, 1):
                expected[at] -= expected[at] // 2
        self.assertEqual(self.told(learnt, shares, counts, cap), expected)

    def test_the_answer_is_a_new_list_of_whole_numbers(self):
        shares, counts = [3, 4], [0, 0]
        answer = learnt(shares, counts, 100)
        self.assertIs(type(answer), list)
        self.assertEqual([type(one) for one in answer], [int, int])
        answer.append(9)
        self.assertEqual((shares, counts), ([3, 4], [0, 0]))


class LearntRefusalTest(PackCase):
    def test_wrong_shares(self):
        for shares in WRONG_SHARES:
            with self.subTest(shares=repr(shares)[:60]):
                many = len(shares) if isinstance(shares, list) else 2
                self.assert_refused(learnt, shares, [0] * many, 1000000)

    def test_wrong_shares_beside_counts_and_caps_that_fit_nothing(self):
        self.assert_refused(learnt, None, None, None)
        self.assert_refused(learnt, [], [], 0)
        self.assert_refused(learnt, [], [], 1)

    def test_shares_at_the_limits_are_taken(self):
        self.assertEqual(self.told(learnt, [1], [0], 1), [1])
        self.assertEqual(self.told(learnt, [1] * 40, [0] * 40, 40), [1] * 40)
        self.assertEqual(self.told(learnt, [GREAT, 1], [0, 0], 2), [1, 1])
        # The least power of two that brings it to 1000000 and below is 2 ** 20; what is odd is rounded up.
        self.assertEqual(learnt([GREAT], [0], 1000000), [953675])

    def test_counts_that_are_no_list(self):
        for counts in NO_LISTS + [(0, 0), "00", {0: 0, 1: 0}]:
            with self.subTest(counts=repr(counts)):
                self.assert_refused(learnt, [1, 1], counts, 10)

    def test_too_few_and_too_many_counts(self):
        for counts in ([], [0], [0, 0, 0], [0] * 41):
            with self.subTest(counts=counts):
                self.assert_refused(learnt, [1, 1], counts, 10)
        self.assert_refused(learnt, [1] * 40, [0] * 39, 40)
        self.assert_refused(learnt, [1] * 40, [0] * 41, 100)

    def test_counts_that_are_no_whole_numbers_in_their_limits(self):
        for wrong in [-1, -GREAT, GREAT + 1, 10 ** 4000] + NO_WHOLE_NUMBERS:
            with self.subTest(wrong=repr(wrong)[:60]):
                self.assert_refused(learnt, [1, 1], [wrong, 0], 10)
                self.assert_refused(learnt, [1, 1], [0, wrong], 10)

    def test_counts_at_the_limits_are_taken(self):
        self.assertEqual(self.told(learnt, [1, 1], [0, 0], 10), [1, 1])
        self.assertEqual(self.told(learnt, [1, 1], [GREAT, 0], 2), [1, 1])

    def test_caps_out_of_their_limits(self):
        for cap in (2, 1, 0, -1, -1000000, 1000001, GREAT, 10 ** 4000):
            with self.subTest(cap=repr(cap)[:60]):
                self.assert_refused(learnt, [1, 1, 1], [0, 0, 0], cap)
        self.assert_refused(learnt, [1] * 40, [0] * 40, 39)
        self.assert_refused(learnt, [1], [0], 0)

    def test_caps_that_are_no_whole_numbers(self):
        for cap in NO_WHOLE_NUMBERS + [3.0, "3", b"3", [3], (3,)]:
            with self.subTest(cap=repr(cap)):
                self.assert_refused(learnt, [1, 1, 1], [0, 0, 0], cap)
                # A cap of True would be in the limits of one share alone.
                self.assert_refused(learnt, [1], [0], cap)

    def test_caps_at_the_limits_are_taken(self):
        self.assertEqual(self.told(learnt, [1, 1, 1], [1, 0, 0], 3), [1, 1, 1])
        self.assertEqual(self.told(learnt, [1, 1, 1], [1, 0, 0], 1000000), [2, 1, 1])
        self.assertEqual(learnt([1] * 40, [0] * 40, 40), [1] * 40)
        self.assertEqual(learnt([999999], [1], 1000000), [1000000])
        self.assertEqual(learnt([1000000], [1], 1000000), [500001])


if __name__ == "__main__":
    unittest.main()
