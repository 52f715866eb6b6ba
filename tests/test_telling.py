"""Points 14 and 15, and 12 where it speaks of them: report, written and read."""

import unittest

from sharepack.books import Book
from sharepack.errors import BadBit, BadCount, BadLine, BadSign, Loose, Short
from sharepack.packing import pack
from sharepack.telling import read, report, written
from tests.helper import PackCase, blocks_by_words, books, packed_by_words, seen, text_of


class ReportTest(PackCase):
    def test_a_text_without_signs_has_no_block(self):
        for book in books():
            self.assertEqual(self.told(report, book, ""), [])

    def test_one_block(self):
        book = Book("abc", 3, 100)
        self.assertEqual(self.told(report, book, "a"), [([1, 1, 1], "10")])
        self.assertEqual(self.told(report, book, "aba"), [([1, 1, 1], "101110")])

    def test_several_blocks(self):
        book = Book("abc", 3, 100)
        expected = [([1, 1, 1], "101110"), ([3, 2, 1], "10011"), ([4, 3, 2], "101010"), ([4, 3, 5], "1110")]
        self.assertEqual(self.told(report, book, "abacabccc"), expected[:3])
        self.assertEqual(self.told(report, book, "abacabcccab"), expected)

    def test_halving(self):
        expected = [([1, 1], "1"), ([1, 2], "0"), ([2, 2], "0"), ([3, 2], "1"), ([2, 1], "0"), ([2, 2], "0")]
        self.assertEqual(self.told(report, Book("ab", 1, 5), "baaaba"), expected)

    def test_one_sign_alone(self):
        self.assertEqual(self.told(report, Book("a", 2, 9), "aaaaa"), [([1], ""), ([3], ""), ([5], "")])

    def test_against_the_words_of_the_document(self):
        for book in books():
            for many in (1, 4, 5, 9, 98, 99, 100, 220):
                text = text_of(book.signs, many)
                expected = [(shares, "".join(words)) for shares, _, words in blocks_by_words(book, text)]
                with self.subTest(book=seen(book), many=many):
                    answer = self.told(report, book, text)
                    self.assertEqual(answer, expected)
                    self.assertEqual("".join([bits for _, bits in answer]), pack(book, text))

    def test_a_list_of_tuples_of_a_list_and_a_text_is_told(self):
        answer = report(Book("ab", 2, 9), "aaa")
        self.assertEqual((type(answer), [type(row) for row in answer]), (list, [tuple, tuple]))
        for shares, bits in answer:
            self.assertEqual((type(shares), type(bits)), (list, str))
            self.assertEqual([type(share) for share in shares], [int, int])

    def test_what_was_told_may_be_changed(self):
        book = Book("ab", 2, 9)
        expected = [([1, 1], "00"), ([3, 1], "10"), ([4, 2], "1")]
        answer = report(book, "aaaba")
        self.assertEqual(answer, expected)
        for shares, _ in answer:
            shares[0] = 99
            shares.append(7)
        answer.clear()
        self.assertEqual(report(book, "aaaba"), expected)

    def test_each_block_has_a_list_of_its_own(self):
        answer = report(Book("ab", 1, 2), "aaa")
        answer[0][0].append(7)
        self.assertEqual([shares for shares, _ in answer], [[1, 1, 7], [1, 1], [1, 1]])

    def test_a_sign_that_the_book_has_not(self):
        for text in ("x", "ax", "xa", "abababx", "ab\n", "\nab", "abxab"):
            with self.subTest(text=text):
                self.assert_refused_with(BadSign, report, Book("ab", 2, 9), text)
                self.assert_refused_with(BadSign, report, Book("ab", 99, 999), text)


class WrittenTest(PackCase):
    def test_a_few_lines(self):
        self.assertEqual(self.told(written, Book("abc", 3, 100), "abacab"), "6 10111010011")
        self.assertEqual(self.told(written, Book("ab", 2, 9), "a"), "1 0")
        self.assertEqual(self.told(written, Book("a", 2, 9), "aaa"), "3 ")

    def test_a_text_without_signs(self):
        for book in books():
            self.assertEqual(self.told(written, book, ""), "0 ")
            self.assertEqual(self.told(read, book, "0 "), "")

    def test_lines_lead_back_to_their_texts(self):
        for book in books():
            for many in (0, 1, 9, 10, 11, 99, 100, 101, 999, 1000, 2000):
                text = text_of(book.signs, many)
                line = f"{many} {pack(book, text)}"
                with self.subTest(book=seen(book), many=many):
                    self.assertEqual(written(book, text), line)
                    self.assertEqual(self.told(read, book, line), text)

    def test_against_the_words_of_the_document(self):
        book = Book(" 10", 4, 30)
        text = text_of(" 10", 321)
        self.assertEqual(written(book, text), "321 " + packed_by_words(book, text))

    def test_texts_are_told(self):
        book = Book("ab", 2, 9)
        self.assertEqual((type(written(book, "ab")), type(read(book, "2 01"))), (str, str))

    def test_a_sign_that_the_book_has_not(self):
        for text in ("x", "ax", "xa", "ab\n", "\nab", "ab ", "abxab"):
            with self.subTest(text=text):
                self.assert_refused_with(BadSign, written, Book("ab", 2, 9), text)


class ReadRefusalTest(PackCase):
    def assert_not_read(self, kind, line):
        for signs in ("a", "ab"):
            self.assert_refused_with(kind, read, Book(signs, 2, 9), line)

    def test_no_line_at_all_and_no_blank(self):
        for line in ("", "0", "1", "10", "2000", "2001", "a", "\n", "3\t01", "3\n01", "0\n", "3_01", "3,01"):
            with self.subTest(line=line):
                self.assert_not_read(BadLine, line)

    def test_a_blank_first(self):
        for line in (" ", "  ", " 0 ", " 0", " 2 01", " 01", "  2 01"):
            with self.subTest(line=line):
                self.assert_not_read(BadLine, line)

    def test_a_nought_ahead(self):
        for count in ("00", "01", "02", "000", "0000", "0002", "002", "010"):
            for bits in ("", "01"):
                with self.subTest(count=count):
                    self.assert_not_read(BadLine, count + " " + bits)

    def test_more_than_four_figures(self):
        for count in ("10000", "20000", "12345", "00000", "00002", "99999", "1" * 5000):
            with self.subTest(count=count[:60]):
                self.assert_not_read(BadLine, count + " 01")

    def test_what_is_no_figure(self):
        for count in ("-1", "+2", "-0", "2-", "a", "2a", "a2", "x", "0x2", "1e2", "2.0", "2.", "1_0", "1,0", "\t2",
                      "2\t", "\n2", "2\n", "2\r", "1\n0", "True", "None", "\u0662", "1\u0660", "\u00b2", "\uff12",
                      "\u00bd", "\u2167", "\u4e8c"):
            for bits in ("", "01"):
                with self.subTest(count=count):
                    self.assert_not_read(BadLine, count + " " + bits)

    def test_a_fault_of_the_line_goes_ahead_of_all_others(self):
        for line in ("02 2", "x 2", " 2", "-1 01", "20010 x"):
            with self.subTest(line=line):
                self.assert_not_read(BadLine, line)

    def test_counts_that_are_too_great(self):
        for count in ("2001", "2002", "3000", "9999"):
            for bits in ("", "01", "2", "01\n", " "):
                with self.subTest(count=count, bits=bits):
                    self.assert_not_read(BadCount, count + " " + bits)

    def test_counts_at_the_limits_are_taken(self):
        self.assertEqual(read(Book("a", 2, 9), "2000 "), "a" * 2000)
        self.assertEqual(read(Book("ab", 99, 2), "2000 " + "01" * 1000), "ab" * 1000)
        self.assertEqual(read(Book("a", 2, 9), "0 "), "")

    def test_bits_with_another_sign(self):
        for line in ("2 02", "2 01\n", "2 01 ", "2  01", "2 0 1", "2 x", "0  ", "0 \n", "2000 2", "1 01x", "2 01 01"):
            with self.subTest(line=line):
                self.assert_not_read(BadBit, line)

    def test_bits_behind_the_last_sign(self):
        for line in ("0 0", "0 1", "1 01", "2 010", "3 0101"):
            with self.subTest(line=line):
                self.assert_not_read(Loose, line)

    def test_fewer_bits_than_all_signs_want(self):
        for line in ("1 ", "2 ", "2 0", "2000 01", "3 01"):
            with self.subTest(line=line):
                self.assert_refused_with(Short, read, Book("ab", 2, 9), line)
        self.assert_refused_with(Short, read, Book("abc", 2, 9), "1 1")


if __name__ == "__main__":
    unittest.main()
