"""Point 2: books, and what is refused with BadBook."""

import unittest

from sharepack.books import Book
from sharepack.errors import BadBook
from tests.helper import FORTY, GREAT, NO_WHOLE_NUMBERS, Anything, PackCase

NO_TEXTS = [None, 0, 1, 7, True, False, 1.5, b"ab", ["a", "b"], ("a", "b"), [], (), {"a": 1}, {}, {"a"},
            Anything(), str, range(3)]


class BookTest(PackCase):
    def assert_taken(self, signs, size, cap):
        book = self.told(Book, signs, size, cap)
        self.assertEqual((book.signs, book.size, book.cap), (signs, size, cap))
        self.assertEqual((type(book.signs), type(book.size), type(book.cap)), (str, int, int))

    def assert_no_book(self, signs, size, cap):
        self.assert_refused_with(BadBook, Book, signs, size, cap)

    def test_what_a_book_is_made_of(self):
        self.assert_taken("abc", 4, 20)
        self.assert_taken("cab", 4, 20)
        self.assert_taken("01 ", 1, 3)

    def test_two_books_do_not_touch_one_another(self):
        first, other = Book("ab", 1, 2), Book("xyz", 9, 10)
        self.assertEqual((first.signs, first.size, first.cap), ("ab", 1, 2))
        self.assertEqual((other.signs, other.size, other.cap), ("xyz", 9, 10))

    def test_signs_that_are_no_text(self):
        for signs in NO_TEXTS:
            with self.subTest(signs=repr(signs)):
                self.assert_no_book(signs, 3, 100)
                self.assert_no_book(signs, None, None)

    def test_the_count_of_the_signs(self):
        self.assert_no_book("", 3, 100)
        self.assert_no_book("", 3, 0)
        self.assert_taken("a", 3, 100)
        self.assert_taken(FORTY[:39], 3, 100)
        self.assert_taken(FORTY, 3, 100)
        self.assert_no_book(FORTY + "b", 3, 100)
        self.assert_no_book(FORTY + "bcdefgh", 3, 100)

    def test_a_sign_twice(self):
        for signs in ("aa", "aab", "baa", "aba", "abca", "abcb", "  ", "~a~", FORTY[:39] + FORTY[0]):
            with self.subTest(signs=signs):
                self.assert_no_book(signs, 3, 100)

    def test_small_and_great_letters_are_two_signs(self):
        self.assert_taken("aA", 3, 100)

    def test_each_sign_from_the_blank_to_the_tilde(self):
        for code in range(ord(" "), ord("~") + 1):
            sign = chr(code)
            if sign != "%":
                with self.subTest(sign=sign):
                    self.assert_taken(sign, 3, 100)
                    self.assert_taken("".join(sorted({"a", sign, "~"})), 3, 100)

    def test_each_sign_below_the_blank(self):
        for code in range(ord(" ")):
            with self.subTest(code=code):
                self.assert_no_book(chr(code), 3, 100)
                self.assert_no_book("a" + chr(code), 3, 100)
                self.assert_no_book(chr(code) + "a", 3, 100)
                self.assert_no_book("a" + chr(code) + "b", 3, 100)

    def test_the_size(self):
        for size in (1, 2, 50, 98, 99):
            self.assert_taken("ab", size, 100)
        for size in (0, 100, 101, -1, -99, GREAT, 10 ** 4000):
            with self.subTest(size=repr(size)[:60]):
                self.assert_no_book("ab", size, 100)

    def test_a_size_that_is_no_whole_number(self):
        for size in NO_WHOLE_NUMBERS + ["3", 3.0, b"3", [3], (3,)]:
            with self.subTest(size=repr(size)):
                self.assert_no_book("ab", size, 100)

    def test_the_cap(self):
        for signs in ("a", "ab", "abcde", FORTY):
            with self.subTest(signs=signs):
                self.assert_no_book(signs, 3, len(signs) - 1)
                self.assert_taken(signs, 3, len(signs))
                self.assert_taken(signs, 3, len(signs) + 1)
                self.assert_taken(signs, 3, 999999)
                self.assert_taken(signs, 3, 1000000)
                self.assert_no_book(signs, 3, 1000001)
        for cap in (0, -1, -2, -1000000, GREAT, 10 ** 4000):
            with self.subTest(cap=repr(cap)[:60]):
                self.assert_no_book("ab", 3, cap)

    def test_a_cap_that_is_no_whole_number(self):
        for cap in NO_WHOLE_NUMBERS + ["3", 3.0, b"3", [3], (3,)]:
            with self.subTest(cap=repr(cap)):
                self.assert_no_book("ab", 3, cap)
                # A cap of True would be in the limits of one sign alone.
                self.assert_no_book("a", 3, cap)


if __name__ == "__main__":
    unittest.main()
