import unittest

from clothchoices.tops import moved
from helper import MOTIONS, data, done_after, expected_moved, expected_print, sample_tops, symmetric_tops
from helper import text_of, told


class MovedByHand(unittest.TestCase):
    def check(self, text, wanted):
        for m in MOTIONS:
            with self.subTest(text=text, m=m):
                self.assertEqual(told(moved(m, data(text))), wanted[m])

    def test_one_square_of_four_letters(self):
        self.check("abcd\n", ["abcd\n", "dabc\n", "cdab\n", "bcda\n", "adcb\n", "badc\n", "cbad\n", "dcba\n"])

    def test_one_square_of_one_letter(self):
        self.check("Q\n", ["Q\n"] * 8)

    def test_slash(self):
        self.check("a/b\n", ["a/b\n", "a\\b\n", "b/a\n", "b\\a\n", "a\\b\n", "b/a\n", "b\\a\n", "a/b\n"])

    def test_backslash(self):
        self.check("a\\B\n", ["a\\B\n", "B/a\n", "B\\a\n", "a/B\n", "a/B\n", "a\\B\n", "B/a\n", "B\\a\n"])

    def test_wider_than_high(self):
        self.check("a b c\nd e f\n", [
            "a b c\nd e f\n", "d a\ne b\nf c\n", "f e d\nc b a\n", "c f\nb e\na d\n",
            "c b a\nf e d\n", "f c\ne b\nd a\n", "d e f\na b c\n", "a d\nb e\nc f\n"])

    def test_higher_than_wide(self):
        self.check("a\nb/c\n", ["a\nb/c\n", "b\\c a\n", "c/b\na\n", "a c\\b\n",
                                "a\nb\\c\n", "c/b a\n", "c\\b\na\n", "a b/c\n"])

    def test_all_kinds_in_one_square_top(self):
        self.check("a b/c\nd\\e fghi\n", [
            "a b/c\nd\\e fghi\n", "e/d a\nifgh b\\c\n", "hifg e\\d\nc/b a\n", "c\\b ghif\na d/e\n",
            "b\\c a\nfihg d/e\n", "gfih c/b\nd\\e a\n", "e/d hgfi\na c\\b\n", "a e\\d\nb/c ihgf\n"])


class Printed(unittest.TestCase):
    def test_as_short_as_may_be(self):
        cases = {"a/a": "a", "a\\a": "a", "aaaa": "a", "abba": "a/b", "aabb": "a\\b", "abab": "abab",
                 "abbb": "abbb", "aaab": "aaab", "aaba": "aaba", "baaa": "baaa", "abaa": "abaa",
                 "aAAa": "a/A", "AAaa": "A\\a", "AaAa": "AaAa", "Z/Z": "Z", "z\\Z": "z\\Z"}
        for long, short in cases.items():
            with self.subTest(square=long):
                self.assertEqual(told(moved(0, data(long + "\n"))), short + "\n")

    def test_within_rows(self):
        self.assertEqual(told(moved(0, data("a/a aaaa\nabba aabb\n"))), "a a\na/b a\\b\n")
        self.assertEqual(told(moved(1, data("abba c/c\n"))), "a\\b\nc\n")

    def test_every_letter(self):
        for letter in "abcdefghijklmnopqrstuvwxyzABCDEFGHIJKLMNOPQRSTUVWXYZ":
            self.assertEqual(moved(0, data(letter + "\n")), [0, ord(letter), 10])


class MovedAgainstPoints(unittest.TestCase):
    def test_all_motions_of_many_tops(self):
        for tops in (sample_tops(), symmetric_tops()):
            for wide, high, letters in tops:
                text = text_of(wide, high, letters)
                for m in MOTIONS:
                    wanted = expected_print(*expected_moved(m, wide, high, letters))
                    self.assertEqual(told(moved(m, data(text))), wanted, (m, text))


class OneAfterAnother(unittest.TestCase):
    TEXTS = ("abcd efgh a/b\nc\\d e bcda\n", "a b\nc d\n", "abcd\n", "a/b\n", "a b c d e f\n")

    def test_two_motions_are_the_one_motion(self):
        for text in self.TEXTS:
            for first in MOTIONS:
                for then in MOTIONS:
                    twice = moved(then, moved(first, data(text))[1:])
                    self.assertEqual(twice, moved(done_after(first, then), data(text)), (text, first, then))

    def test_it_is_the_same_one_for_all_tops(self):
        for top in list(sample_tops())[::7] + list(symmetric_tops()):
            once = [moved(m, data(text_of(*top))) for m in MOTIONS]
            for first in MOTIONS:
                for then in MOTIONS:
                    self.assertEqual(moved(then, once[first][1:]), once[done_after(first, then)], (top, first, then))

    def test_eight_motions_differ(self):
        answers = [told(moved(m, data(self.TEXTS[0]))) for m in MOTIONS]
        self.assertEqual(len(set(answers)), 8)

    def test_back_again(self):
        for text in self.TEXTS:
            for m, times in ((1, 4), (3, 4), (2, 2), (4, 2), (5, 2), (6, 2), (7, 2)):
                now = data(text)
                for _ in range(times):
                    now = moved(m, now)[1:]
                self.assertEqual(now, data(text), (text, m))


class Refused(unittest.TestCase):
    def test_m_above_7(self):
        for m in (8, 9, 12, 255, 4294967295):
            self.assertEqual(moved(m, data("a\n")), [-1])
        self.assertEqual(moved(7, data("a\n")), [0, 97, 10])

    def test_fault_before_m(self):
        for m in (0, 7, 8, 4294967295):
            self.assertEqual(moved(m, data("a")), [-6])
            self.assertEqual(moved(m, []), [-6])

    def test_length_before_fault_and_m(self):
        for m in (0, 8, 4294967295):
            self.assertEqual(moved(m, [0] * 1025), [-2])
            self.assertEqual(moved(m, [0] * 1024), [-6])


if __name__ == "__main__":
    unittest.main()
