"""Points 3, 4 and 9 for a Learner: the shares ahead of the first sign, behind each sign, behind each block."""

import unittest

from sharepack.books import Book
from sharepack.errors import BadSign
from sharepack.packing import Learner
from tests.helper import FORTY, SETTINGS, PackCase, books, seen, text_of


class LearnerTest(PackCase):
    def took(self, learner, signs):
        for sign in signs:
            self.assertIsNone(self.told(learner.took, sign))

    def test_at_first_all_shares_are_1(self):
        for signs, size, cap in SETTINGS:
            with self.subTest(signs=signs, size=size, cap=cap):
                learner = self.told(Learner, Book(signs, size, cap))
                self.assertEqual(learner.shares, [1] * len(signs))
                self.assertEqual(learner.waits, "")
        self.assert_learner(Learner(Book("a", 1, 1)), [1], [""], "")
        self.assert_learner(Learner(Book("ab", 9, 9)), [1, 1], ["0", "1"], "")
        self.assert_learner(Learner(Book("abc", 9, 9)), [1, 1, 1], ["10", "11", "0"], "")

    def test_behind_each_sign_and_each_full_block(self):
        learner = Learner(Book("abc", 3, 100))
        first = ["10", "11", "0"]
        for sign, waits in (("a", "a"), ("b", "ab")):
            self.took(learner, sign)
            self.assert_learner(learner, [1, 1, 1], first, waits)
        self.took(learner, "a")
        second = ["0", "11", "10"]
        self.assert_learner(learner, [3, 2, 1], second, "")
        for sign, waits in (("c", "c"), ("a", "ca")):
            self.took(learner, sign)
            self.assert_learner(learner, [3, 2, 1], second, waits)
        self.took(learner, "b")
        self.assert_learner(learner, [4, 3, 2], second, "")
        self.took(learner, "ccc")
        self.assert_learner(learner, [4, 3, 5], ["11", "10", "0"], "")

    def test_shares_are_in_the_order_of_the_signs(self):
        learner = Learner(Book("cba", 3, 100))
        self.took(learner, "aab")
        self.assert_learner(learner, [1, 2, 3], ["10", "11", "0"], "")

    def test_halving_where_the_sum_is_more_than_the_cap(self):
        for cap, shares in ((6, [3, 2, 1]), (5, [2, 1, 1]), (4, [2, 1, 1]), (3, [1, 1, 1])):
            with self.subTest(cap=cap):
                learner = Learner(Book("abc", 3, cap))
                self.took(learner, "aba")
                self.assertEqual(learner.shares, shares)

    def test_several_halvings_behind_one_block(self):
        learner = Learner(Book("ab", 99, 4))
        self.took(learner, "a" * 98)
        self.assert_learner(learner, [1, 1], ["0", "1"], "a" * 98)
        self.took(learner, "b")
        # 99 + 2, 50 + 1, 25 + 1, 13 + 1, 7 + 1, 4 + 1, 2 + 1.
        self.assert_learner(learner, [2, 1], ["1", "0"], "")

    def test_blocks_of_one_sign(self):
        learner = Learner(Book("ab", 1, 5))
        for sign, shares, words in (("b", [1, 2], ["0", "1"]), ("a", [2, 2], ["0", "1"]), ("a", [3, 2], ["1", "0"]),
                                    ("a", [2, 1], ["1", "0"]), ("b", [2, 2], ["0", "1"])):
            self.took(learner, sign)
            self.assert_learner(learner, shares, words, "")

    def test_a_book_of_one_sign(self):
        learner = Learner(Book("a", 2, 4))
        for shares, waits in (([1], "a"), ([3], ""), ([3], "a"), ([3], ""), ([3], "a"), ([3], "")):
            self.took(learner, "a")
            self.assert_learner(learner, shares, [""], waits)

    def test_against_the_words_of_the_document(self):
        for book in books():
            many = 130 if len(book.signs) < 40 else 105
            text = text_of(book.signs, many)
            learner = Learner(book)
            with self.subTest(book=seen(book)):
                for at in range(many):
                    self.assert_learner_by_words(learner, book, text[:at])
                    self.took(learner, text[at])
                self.assert_learner_by_words(learner, book, text)

    def test_two_learners_of_one_book_do_not_touch_one_another(self):
        book = Book("ab", 2, 9)
        first, other = Learner(book), Learner(book)
        self.took(first, "aab")
        self.assert_learner(first, [3, 1], ["1", "0"], "b")
        self.assert_learner(other, [1, 1], ["0", "1"], "")
        self.took(other, "bbbb")
        self.assert_learner(first, [3, 1], ["1", "0"], "b")
        self.assert_learner(other, [1, 5], ["0", "1"], "")
        self.assertEqual((book.signs, book.size, book.cap), ("ab", 2, 9))

    def test_lists_that_were_told_stay_as_they_were(self):
        learner = Learner(Book("ab", 1, 9))
        shares, words = learner.shares, learner.words
        self.took(learner, "a")
        self.assertEqual((shares, words), ([1, 1], ["0", "1"]))
        self.assert_learner(learner, [2, 1], ["1", "0"], "")

    def test_a_sign_that_the_book_has_not(self):
        for signs in ("ab", "a", FORTY):
            learner = Learner(Book(signs, 2, 50))
            for wrong in ("x", "\n", "B", signs + "x"):
                with self.subTest(signs=signs, wrong=wrong):
                    self.assert_refused_unchanged(BadSign, learner, learner.took, wrong)
            self.took(learner, signs[0])
            self.assertEqual(learner.waits, signs[0])
            self.assert_refused_unchanged(BadSign, learner, learner.took, "x")
            self.took(learner, signs[0])
            self.assertEqual((learner.shares, learner.waits), ([3] + [1] * (len(signs) - 1), ""))

    def test_what_is_not_one_sign(self):
        learner = Learner(Book("abc", 2, 50))
        for wrong in ("", "ab", "abc", "bb"):
            with self.subTest(wrong=wrong):
                self.assert_refused_unchanged(BadSign, learner, learner.took, wrong)


if __name__ == "__main__":
    unittest.main()
