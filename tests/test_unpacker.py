"""Points 11 and 12 for an Unpacker."""

import unittest

from sharepack.books import Book
from sharepack.errors import BadBit, BadCount, Loose
from sharepack.packing import Unpacker
from tests.helper import WRONG_COUNTS_OF_SIGNS, PackCase, blocks_by_words, books, packed_by_words, seen, text_of


def ends_of(book, text):
    """Of each sign of a text: how many bits have come when its last one has."""
    ends = []
    for _, _, words in blocks_by_words(book, text):
        for word in words:
            ends.append((ends[-1] if ends else 0) + len(word))
    return ends


class UnpackerTest(PackCase):
    def test_what_a_new_one_holds(self):
        for many in (0, 1, 5, 2000):
            unpacker = self.told(Unpacker, Book("abc", 3, 100), many)
            self.assert_learner(unpacker.learner, [1, 1, 1], ["10", "11", "0"], "")
            self.assertEqual((unpacker.left, type(unpacker.left)), (many, int))
            # One sign alone is not known ahead of the first put either.
            unpacker = self.told(Unpacker, Book("a", 3, 100), many)
            self.assert_learner(unpacker.learner, [1], [""], "")
            self.assertEqual(unpacker.left, many)

    def test_part_by_part(self):
        # abacab is 10 11 10, then with other codes 10 0 11.
        unpacker = Unpacker(Book("abc", 3, 100), 6)
        for bits, signs, left, shares, waits in (("", "", 6, [1, 1, 1], ""), ("1", "", 6, [1, 1, 1], ""),
                                                 ("", "", 6, [1, 1, 1], ""), ("01", "a", 5, [1, 1, 1], "a"),
                                                 ("1101", "ba", 3, [3, 2, 1], ""), ("", "", 3, [3, 2, 1], ""),
                                                 ("001", "ca", 1, [3, 2, 1], "ca"), ("1", "b", 0, [4, 3, 2], ""),
                                                 ("", "", 0, [4, 3, 2], "")):
            answer = self.told(unpacker.put, bits)
            self.assertEqual((answer, unpacker.left), (signs, left))
            self.assertEqual((type(answer), type(unpacker.left)), (str, int))
            self.assertEqual((unpacker.learner.shares, unpacker.learner.waits), (shares, waits))

    def test_one_sign_alone_is_known_at_the_first_put(self):
        for many in (1, 2, 3, 7, 2000):
            book = Book("a", 3, 6)
            unpacker = Unpacker(book, many)
            self.assertEqual(self.told(unpacker.put, ""), "a" * many)
            self.assertEqual(unpacker.left, 0)
            self.assert_learner_by_words(unpacker.learner, book, "a" * many)
            self.assertEqual(self.told(unpacker.put, ""), "")
            self.assert_learner_by_words(unpacker.learner, book, "a" * many)

    def test_no_signs_at_all(self):
        for book in books():
            unpacker = Unpacker(book, 0)
            self.assertEqual((unpacker.put(""), unpacker.left), ("", 0))
            self.assertEqual(unpacker.learner.shares, [1] * len(book.signs))

    def test_a_sign_is_known_as_soon_as_its_last_bit_has_come(self):
        for book in books():
            if len(book.signs) > 1:
                text = text_of(book.signs, 120)
                with self.subTest(book=seen(book)):
                    self.check_bit_by_bit(book, text)

    def check_bit_by_bit(self, book, text):
        ends = ends_of(book, text)
        unpacker = Unpacker(book, len(text))
        known = ""
        for at, bit in enumerate(packed_by_words(book, text), 1):
            known += unpacker.put(bit)
            many = len([end for end in ends if end <= at])
            self.assertEqual(known, text[:many])
            self.assertEqual(unpacker.left, len(text) - many)
        self.assertEqual((known, unpacker.left), (text, 0))

    def test_parts_of_any_length_are_all_together_the_same(self):
        for book in books():
            text = text_of(book.signs, 230)
            bits = packed_by_words(book, text)
            for step in (1, 2, 3, 7, 99, 100, 5000):
                with self.subTest(book=seen(book), step=step):
                    self.check_parts(book, text, [bits[at:at + step] for at in range(0, len(bits), step)] or [""])
            self.check_parts(book, text, ["", bits[:3], "", "", bits[3:104], bits[104:], ""])

    def check_parts(self, book, text, parts):
        unpacker = Unpacker(book, len(text))
        self.assertEqual("".join([unpacker.put(part) for part in parts]), text)
        self.assertEqual(unpacker.left, 0)
        self.assert_learner_by_words(unpacker.learner, book, text)

    def test_the_learner_behind_each_part(self):
        for book in books():
            text = text_of(book.signs, 105)
            bits = packed_by_words(book, text)
            unpacker = Unpacker(book, 105)
            learner = unpacker.learner
            known = ""
            for at in range(0, len(bits), 11):
                known += unpacker.put(bits[at:at + 11])
                with self.subTest(book=seen(book), at=at):
                    self.assert_learner_by_words(unpacker.learner, book, known)
                    self.assertIs(unpacker.learner, learner)

    def test_fewer_bits_than_all_signs_want_are_no_fault_of_a_put(self):
        unpacker = Unpacker(Book("ab", 2, 9), 2000)
        self.assertEqual((unpacker.put("01"), unpacker.left), ("ab", 1998))

    def test_two_unpackers_of_one_book_do_not_touch_one_another(self):
        book = Book("abc", 1, 9)
        first, other = Unpacker(book, 5), Unpacker(book, 5)
        self.assertEqual(first.put("111"), "b")
        self.assertEqual(other.put("0"), "c")
        self.assertEqual((first.learner.shares, other.learner.shares), ([1, 2, 1], [1, 1, 2]))
        self.assertEqual((first.left, other.left), (4, 4))


class RefusalTest(PackCase):
    def test_counts_of_signs_that_are_no_counts(self):
        for many in WRONG_COUNTS_OF_SIGNS:
            for signs in ("a", "ab"):
                with self.subTest(many=repr(many)[:60], signs=signs):
                    self.assert_refused_with(BadCount, Unpacker, Book(signs, 2, 9), many)

    def test_bits_with_another_sign(self):
        for signs in ("a", "ab"):
            for wrong in ("2", "x", " ", "\n", "01x", "x01", "0x1", "010101010x", "0\n", "0\u0661"):
                for many in (0, 1, 2, 2000):
                    with self.subTest(signs=signs, wrong=wrong, many=many):
                        unpacker = Unpacker(Book(signs, 2, 9), many)
                        self.assert_refused_unchanged(BadBit, unpacker, unpacker.put, wrong)

    def test_loose_bits_in_one_put(self):
        for book in books():
            for many in (0, 1, 2, 3, 50):
                bits = packed_by_words(book, text_of(book.signs, many))
                for loose in ("0", "1", "10" * 30):
                    with self.subTest(book=seen(book), many=many, loose=loose):
                        unpacker = Unpacker(book, many)
                        self.assert_refused_unchanged(Loose, unpacker, unpacker.put, bits + loose)

    def test_loose_bits_in_a_later_put(self):
        for book in books():
            text = text_of(book.signs, 50)
            bits = packed_by_words(book, text)
            unpacker = Unpacker(book, 50)
            self.assertEqual(unpacker.put(bits), text)
            for loose in ("0", "1", bits + "0"):
                with self.subTest(book=seen(book), loose=loose):
                    self.assert_refused_unchanged(Loose, unpacker, unpacker.put, loose)
            self.assertEqual((unpacker.put(""), unpacker.left), ("", 0))
            self.assert_learner_by_words(unpacker.learner, book, text)

    def test_another_sign_goes_ahead_of_loose_bits(self):
        unpacker = Unpacker(Book("ab", 2, 9), 2)
        self.assert_refused_unchanged(BadBit, unpacker, unpacker.put, "0102")
        unpacker.put("01")
        self.assert_refused_unchanged(BadBit, unpacker, unpacker.put, "02")
        self.assert_refused_unchanged(BadBit, unpacker, unpacker.put, "2")
        self.assert_refused_unchanged(Loose, unpacker, unpacker.put, "0")

    def test_one_sign_alone_is_still_to_be_told_behind_what_is_refused(self):
        unpacker = Unpacker(Book("a", 2, 9), 5)
        self.assert_refused_unchanged(Loose, unpacker, unpacker.put, "0")
        self.assert_refused_unchanged(BadBit, unpacker, unpacker.put, "a")
        self.assertEqual((unpacker.left, unpacker.learner.shares, unpacker.learner.waits), (5, [1], ""))
        self.assertEqual((unpacker.put(""), unpacker.left), ("aaaaa", 0))
        self.assert_refused_unchanged(Loose, unpacker, unpacker.put, "1")

    def test_it_goes_on_as_if_what_is_refused_had_not_been(self):
        for book in books():
            text = text_of(book.signs, 60)
            bits = packed_by_words(book, text)
            unpacker = Unpacker(book, 60)
            known = ""
            for at in range(0, len(bits) + 1, 3):
                self.assert_refused_unchanged(Loose, unpacker, unpacker.put, bits[at:] + "0")
                self.assert_refused_unchanged(BadBit, unpacker, unpacker.put, bits[at:] + "\n")
                known += unpacker.put(bits[at:at + 3])
                self.assert_learner_by_words(unpacker.learner, book, known)
                self.assertEqual(unpacker.left, 60 - len(known))
            self.assertEqual(known, text)


if __name__ == "__main__":
    unittest.main()
