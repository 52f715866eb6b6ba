"""Points 9 to 13 for pack, unpack and Packer."""

import time
import unittest
from itertools import product

from sharepack.books import Book
from sharepack.errors import BadBit, BadCount, BadSign, Loose, Short
from sharepack.packing import Packer, pack, unpack
from tests.helper import (FORTY, WRONG_COUNTS_OF_SIGNS, PackCase, blocks_by_words, books, packed_by_words, seen,
                          text_of)


class PackTest(PackCase):
    def assert_packed(self, book, text, bits):
        answer = self.told(pack, book, text)
        self.assertEqual(answer, bits)
        self.assertIs(type(answer), str)
        back = self.told(unpack, book, bits, len(text))
        self.assertEqual(back, text)
        self.assertIs(type(back), str)

    def test_a_text_without_signs(self):
        for book in books():
            self.assert_packed(book, "", "")

    def test_less_than_a_block_just_a_block_and_more(self):
        book = Book("abc", 3, 100)
        self.assert_packed(book, "a", "10")
        self.assert_packed(book, "ab", "1011")
        self.assert_packed(book, "aba", "101110")
        # Behind the first block the shares are 3, 2, 1 and the codes 0, 11, 10.
        self.assert_packed(book, "abac", "10111010")
        self.assert_packed(book, "abacab", "10111010011")
        # Behind the second one the shares are 4, 3, 2, the codes still the same.
        self.assert_packed(book, "abacabc", "1011101001110")
        self.assert_packed(book, "abacabccc", "10111010011101010")
        # Behind the third one the shares are 4, 3, 5 and the codes 11, 10, 0.
        self.assert_packed(book, "abacabcccab", "101110100111010101110")

    def test_blocks_of_one_sign(self):
        # The shares: 1 1, 1 2, 2 2, 3 2, 2 1 by halving, 2 2.
        self.assert_packed(Book("ab", 1, 5), "baaab", "10010")

    def test_a_block_that_is_not_full_is_not_learnt(self):
        self.assert_packed(Book("ab", 9, 100), "a" * 8, "0" * 8)
        self.assert_packed(Book("ab", 9, 100), "a" * 9, "0" * 9)
        self.assert_packed(Book("ab", 9, 100), "a" * 10, "0" * 9 + "1")

    def test_a_book_of_one_sign_wants_no_bits(self):
        for size in (1, 2, 99):
            for many in (0, 1, 2, 3, 99, 100, 2000):
                self.assert_packed(Book("z", size, 50), "z" * many, "")

    def test_a_book_of_forty_signs(self):
        book = Book(FORTY, 99, 1000)
        # Of forty nodes of one weight the first 16 become pairs of pairs of pairs of pairs, twice.
        self.assertEqual([len(pack(book, sign)) for sign in FORTY], [6] * 16 + [5] * 24)
        self.assert_packed(book, FORTY, packed_by_words(book, FORTY))
        self.assert_packed(book, FORTY[::-1] * 4, packed_by_words(book, FORTY[::-1] * 4))

    def test_against_the_words_of_the_document(self):
        for book in books():
            for many in (1, 2, 3, 4, 5, 6, 8, 9, 12, 98, 99, 100, 198, 250):
                for seed in (1, 2):
                    text = text_of(book.signs, many, seed)
                    with self.subTest(book=seen(book), text=text):
                        self.assert_packed(book, text, packed_by_words(book, text))

    def test_all_short_texts_come_back(self):
        for setting in (("ab", 1, 2), ("ab", 2, 3), ("abc", 1, 4), ("abc", 2, 50), ("cab", 3, 3)):
            book = Book(*setting)
            for many in range(6):
                rows = {}
                for signs in product(setting[0], repeat=many):
                    text = "".join(signs)
                    bits = pack(book, text)
                    self.assertEqual(unpack(book, bits, many), text)
                    rows[bits] = text
                self.assertEqual(len(rows), len(setting[0]) ** many)
                self.check_apart(list(rows))

    def check_apart(self, rows):
        """No row begins another one."""
        rows = sorted(rows)
        for row, following in zip(rows, rows[1:]):
            self.assertFalse(following.startswith(row), (row, following))

    def test_a_book_serves_many_texts(self):
        book = Book("ab", 2, 7)
        first = pack(book, "aabab")
        pack(book, "bbbbbbbb")
        self.assertEqual(pack(book, "aabab"), first)
        self.assertEqual(unpack(book, first, 5), "aabab")


class PackerTest(PackCase):
    def test_what_a_new_one_holds(self):
        packer = self.told(Packer, Book("abc", 3, 100))
        self.assert_learner(packer.learner, [1, 1, 1], ["10", "11", "0"], "")

    def test_part_by_part(self):
        packer = Packer(Book("abc", 3, 100))
        for part, bits, shares, waits in (("", "", [1, 1, 1], ""), ("ab", "1011", [1, 1, 1], "ab"),
                                          ("", "", [1, 1, 1], "ab"), ("ac", "1010", [3, 2, 1], "c"),
                                          ("abccca", "0111010" + "1011", [4, 3, 5], "a")):
            self.assertEqual(self.told(packer.put, part), bits)
            self.assertEqual((packer.learner.shares, packer.learner.waits), (shares, waits))

    def test_parts_of_any_length_are_all_together_the_same(self):
        for book in books():
            text = text_of(book.signs, 230)
            bits = packed_by_words(book, text)
            for step in (1, 2, 3, 5, 7, 98, 99, 100, 230):
                with self.subTest(book=seen(book), step=step):
                    self.check_parts(book, [text[at:at + step] for at in range(0, 230, step)], bits)
            self.check_parts(book, ["", text[:3], "", "", text[3:103], text[103:], ""], bits)

    def check_parts(self, book, parts, bits):
        packer = Packer(book)
        told = ""
        for part in parts:
            answer = packer.put(part)
            self.assertIs(type(answer), str)
            told += answer
        self.assertEqual(told, bits)

    def test_the_learner_behind_each_part(self):
        for book in books():
            text = text_of(book.signs, 110)
            packer = Packer(book)
            learner = packer.learner
            for at in range(0, 110, 5):
                packer.put(text[at:at + 5])
                with self.subTest(book=seen(book), at=at):
                    self.assert_learner_by_words(packer.learner, book, text[:at + 5])
                    self.assertIs(packer.learner, learner)

    def test_each_part_has_the_codes_of_its_signs(self):
        book = Book("abcd", 5, 20)
        text = text_of("abcd", 77)
        packer = Packer(book)
        for _, block, words in blocks_by_words(book, text):
            for sign, word in zip(block, words):
                self.assertEqual(packer.put(sign), word)

    def test_two_packers_of_one_book_do_not_touch_one_another(self):
        book = Book("ab", 1, 9)
        first, other = Packer(book), Packer(book)
        self.assertEqual(first.put("bb"), "11")
        self.assertEqual(other.put("aa"), "01")
        self.assertEqual((first.learner.shares, other.learner.shares), ([1, 3], [3, 1]))


class BadSignTest(PackCase):
    def test_a_sign_that_the_book_has_not(self):
        for book in books():
            good = text_of(book.signs, 5)
            for wrong in ("x", "\n", "\t", "B", "\r", "\0"):
                for text in (wrong, wrong + good, good + wrong, good[:2] + wrong + good[2:], good + wrong * 2):
                    with self.subTest(book=seen(book), text=text):
                        self.assert_refused_with(BadSign, pack, book, text)
                        packer = Packer(book)
                        self.assert_refused_unchanged(BadSign, packer, packer.put, text)

    def test_figures_and_blanks_are_signs_like_others(self):
        self.assert_refused_with(BadSign, pack, Book("01", 2, 9), "0 1")
        self.assert_refused_with(BadSign, pack, Book("ab", 2, 9), "ab ")
        self.assertEqual(pack(Book("0 1", 9, 9), "0 1"), "10110")

    def test_a_packer_goes_on_as_if_it_had_not_been(self):
        for book in books():
            text = text_of(book.signs, 60)
            packer = Packer(book)
            told = ""
            for at in range(0, 60, 4):
                self.assert_refused_unchanged(BadSign, packer, packer.put, text[at:] + "\n")
                told += packer.put(text[at:at + 4])
                self.assert_refused_unchanged(BadSign, packer, packer.put, text[:at] + "x")
            self.assertEqual(told, packed_by_words(book, text))
            self.assert_learner_by_words(packer.learner, book, text)


class UnpackRefusalTest(PackCase):
    def assert_not_unpacked(self, kind, book, bits, many):
        self.assert_refused_with(kind, unpack, book, bits, many)

    def test_counts_of_signs_that_are_no_counts(self):
        for many in WRONG_COUNTS_OF_SIGNS:
            with self.subTest(many=repr(many)[:60]):
                self.assert_not_unpacked(BadCount, Book("ab", 2, 9), "0", many)
                self.assert_not_unpacked(BadCount, Book("a", 2, 9), "", many)
                # Ahead of any fault of the bits.
                self.assert_not_unpacked(BadCount, Book("ab", 2, 9), "2", many)
                self.assert_not_unpacked(BadCount, Book("ab", 2, 9), "", many)
                self.assert_not_unpacked(BadCount, Book("a", 2, 9), "00", many)

    def test_counts_at_the_limits_are_taken(self):
        self.assertEqual(unpack(Book("ab", 2, 9), "", 0), "")
        self.assertEqual(unpack(Book("a", 2, 9), "", 2000), "a" * 2000)
        self.assertEqual(unpack(Book("ab", 99, 2), "01" * 1000, 2000), "ab" * 1000)

    def test_bits_with_another_sign(self):
        for wrong in ("2", "a", " ", "\n", "-", "O", "l", "\u0660", "\u0661", "\uff10"):
            for bits in (wrong, wrong + "01", "0" + wrong + "1", "01" + wrong, "011" + wrong, "01" * 9 + wrong):
                for many in (0, 1, 2, 3, 7, 2000):
                    with self.subTest(bits=bits, many=many):
                        self.assert_not_unpacked(BadBit, Book("ab", 2, 9), bits, many)
                        self.assert_not_unpacked(BadBit, Book("a", 2, 9), bits, many)

    def test_bits_behind_the_last_sign(self):
        for book in books():
            for many in (0, 1, 2, 3, 50):
                bits = pack(book, text_of(book.signs, many))
                for loose in ("0", "1", "01" * 50):
                    with self.subTest(book=seen(book), many=many, loose=loose):
                        self.assert_not_unpacked(Loose, book, bits + loose, many)

    def test_fewer_bits_than_all_signs_want(self):
        for book in books():
            for many in (1, 2, 3, 50):
                bits = pack(book, text_of(book.signs, many))
                for at in range(len(bits)):
                    with self.subTest(book=seen(book), many=many, at=at):
                        self.assert_not_unpacked(Short, book, bits[:at], many)

    def test_one_sign_alone_is_never_short(self):
        self.assertEqual(unpack(Book("a", 3, 9), "", 7), "aaaaaaa")
        self.assert_not_unpacked(Loose, Book("a", 3, 9), "0", 7)


class LongTest(PackCase):
    def test_2000_signs_within_a_few_seconds(self):
        for book in books():
            for text in (text_of(book.signs, 2000), book.signs[-1] * 2000):
                with self.subTest(book=seen(book)):
                    start = time.monotonic()
                    bits = pack(book, text)
                    self.assertEqual(unpack(book, bits, 2000), text)
                    self.assertLess(time.monotonic() - start, 5)

    def test_2000_signs_against_the_words_of_the_document(self):
        for setting in (("a", 7, 30), ("ab", 1, 30), ("abc", 10, 1000000), (FORTY, 10, 5000)):
            book = Book(*setting)
            text = text_of(book.signs, 2000)
            with self.subTest(book=seen(book)):
                self.assertEqual(pack(book, text), packed_by_words(book, text))

    def test_2001_signs_are_packed_without_an_error(self):
        self.assertEqual(pack(Book("ab", 99, 2), "ab" * 1000 + "a"), "01" * 1000 + "0")


if __name__ == "__main__":
    unittest.main()
