"""Which texts are at fault, and that all calls hold them to be so."""

import unittest

from clothchoices.tops import class_of, count, form, keeps, moved, number, same
from helper import CHOICE_HOWS, HOWS, WHICHES, data


def row(squares):
    return " ".join(squares) + "\n"


class Texts(unittest.TestCase):
    def check_fault(self, text):
        numbers = data(text) if isinstance(text, str) else text
        with self.subTest(text=text):
            self.assertEqual(moved(0, numbers), [-6])
            self.assertEqual(keeps(numbers), [-6])
            for how in HOWS:
                self.assertEqual(form(how, numbers), [-6])
                self.assertEqual(same(how, numbers, data("a\n")), [-6])
                self.assertEqual(same(how, data("a\n"), numbers), [-6])
            for which in WHICHES:
                self.assertEqual(count(which, 2, 1, numbers), [-6])
                self.assertEqual(class_of(which, 0, 1, 0, numbers), [-6])
                self.assertEqual(number(which, 1, 1, numbers, [0]), [-6])

    def check_block(self, text):
        with self.subTest(text=text):
            self.assertEqual(moved(0, data(text)), [0] + data(text))
            self.assertEqual(len(keeps(data(text))), 9)
            for how in HOWS:
                self.assertEqual(len(form(how, data(text))), 2 + len(text))
                self.assertEqual(same(how, data(text), data(text)), [0, 1, 0])
            for how in CHOICE_HOWS:
                self.assertEqual(count(0, how, 1, data(text)), [0, 1])
                first = class_of(0, how, 1, 0, data(text))
                self.assertEqual(sum(first), 0)
                self.assertEqual(number(0, how, 1, data(text), first[1:]), [0, 0])

    def test_sizes(self):
        for wide in range(1, 7):
            for high in range(1, 7):
                self.check_block(row("abcdef"[:wide]) * high)
        self.check_block(row(["abcd"] * 6) * 6)

    def test_too_wide_or_high(self):
        self.check_fault(row("abcdefg"))
        self.check_fault(row("abcdefg") * 7)
        self.check_fault(row("a") * 7)
        self.check_fault(row("abcdef") * 7)
        self.check_fault(row("abcdefg") * 2)
        self.check_fault(row("abcdef") + row("abcdefg"))
        self.check_fault(row(["a"] * 100))
        self.check_fault(row("a") * 100)

    def test_no_bytes(self):
        self.check_fault([])

    def test_rows_of_other_lengths(self):
        self.check_fault("a b\nc\n")
        self.check_fault("a\nb c\n")
        self.check_fault("a b\nc d\ne\n")
        self.check_fault("a b\nc d\ne f g\n")
        # As many bytes or letters in a row are not as many squares.
        self.check_fault("a b\nc/d\n")
        self.check_fault("a b\ncdef\n")

    def test_no_row_end(self):
        self.check_fault("a")
        self.check_fault("a b\nc d")
        self.check_fault("a/b")
        self.check_fault("abcd")

    def test_blanks(self):
        for text in ("a  b\n", "a \n", " a\n", " \n", " ", "a b \n", " a b\n", "a\n b\n", "a b\nc  d\n", "a /b\n"):
            self.check_fault(text)

    def test_empty_rows(self):
        for text in ("\n", "\n\n", "\na\n", "a\n\n", "a\n\nb\n"):
            self.check_fault(text)

    def test_squares_of_no_form(self):
        for square in ("a/", "a\\", "ab", "abc", "abcde", "a/bc", "ab/c", "abc/", "/abc", "a\\bc", "/", "\\", "/a",
                       "\\a", "//", "a//", "//a", "///", "a/\\", "a|b", "a-b", "a/b/c", "a/b/", "a//b", "/a/b",
                       "a/bcde", "abcdefgh"):
            self.check_fault(square + "\n")
            self.check_fault("a " + square + "\n")
            self.check_fault("a\n" + square + "\n")

    def test_bytes_that_are_no_letter(self):
        letters = list(range(65, 91)) + list(range(97, 123))
        for byte in range(256):
            if byte not in letters:
                self.check_fault([byte, 10])
                self.check_fault([byte, 47, 97, 10])
                self.check_fault([97, 47, byte, 10])
                self.check_fault([byte, 92, 97, 10])
                self.check_fault([97, 92, byte, 10])
                for place in range(4):
                    four = [97, 98, 99, 100, 10]
                    four[place] = byte
                    self.check_fault(four)

    def test_letters_at_the_edges(self):
        for text in ("A\n", "Z\n", "a\n", "z\n", "A/Z\n", "a\\z\n", "AZaz\n"):
            self.check_block(text)

    def test_behind_a_whole_block(self):
        for more in ("b", " ", "\n", "\0", "/", "b ", "b/", "\xff", "\r\n"):
            self.check_fault("a\n" + more)
            self.check_fault(row("abcdef") * 6 + more)
        self.check_fault("a\r\n")

    def test_lengths(self):
        for numbers in ([97] * 1024, data("a\n") * 512, data("a ") * 512, [10] * 1024, [255] * 1024):
            self.check_fault(numbers)
            for more in (1, 2, 76):
                longer = numbers + [10] * more
                self.assertEqual(moved(0, longer), [-2])
                self.assertEqual(keeps(longer), [-2])
                self.assertEqual(count(0, 0, 1, longer), [-2])
                self.assertEqual(class_of(0, 0, 1, 0, longer), [-2])
                self.assertEqual(number(0, 0, 1, longer, [0]), [-2])


if __name__ == "__main__":
    unittest.main()
