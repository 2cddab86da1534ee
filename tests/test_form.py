import string
import unittest

from clothchoices.tops import form, moved
from helper import HOWS, MOTIONS, data, expected_seen, pieced_tops, relettered, sample_letters, sample_tops
from helper import symmetric_tops, text_of


class FormByHand(unittest.TestCase):
    def check(self, how, text, motion, least):
        with self.subTest(how=how, text=text):
            self.assertEqual(form(how, data(text)), [0, motion] + data(least))

    def test_one_patch(self):
        for how in HOWS:
            self.check(how, "a\n", 0, "a\n")
            self.check(how, "a a\na a\n", 0, "a a\na a\n")
        self.check(0, "Q\n", 0, "Q\n")
        self.check(1, "Q\n", 0, "a\n")
        # A row's end is less than a blank.
        self.check(0, "q q q\n", 1, "q\nq\nq\n")
        self.check(1, "q q q\n", 1, "a\na\na\n")
        self.check(1, "q\nq\nq\n", 0, "a\na\na\n")

    def test_one_square_of_four_letters(self):
        self.check(0, "abcd\n", 0, "abcd\n")
        self.check(0, "dabc\n", 3, "abcd\n")
        self.check(0, "adcb\n", 4, "abcd\n")
        self.check(0, "cbad\n", 6, "abcd\n")
        self.check(0, "dcba\n", 7, "abcd\n")
        self.check(1, "dcba\n", 0, "abcd\n")
        self.check(1, "cabd\n", 0, "abcd\n")

    def test_the_first_of_several_motions(self):
        self.check(0, "a\\b\n", 3, "a/b\n")
        self.check(0, "b/a\n", 2, "a/b\n")
        self.check(0, "b\\a\n", 1, "a/b\n")
        self.check(0, "baba\n", 1, "abab\n")
        self.check(1, "baba\n", 0, "abab\n")
        self.check(0, "b a\na b\n", 1, "a b\nb a\n")
        self.check(1, "b a\na b\n", 0, "a b\nb a\n")

    def test_slash_before_backslash(self):
        self.check(0, "a/b\n", 0, "a/b\n")
        self.check(1, "b/a\n", 0, "a/b\n")
        self.check(1, "a\\b\n", 1, "a/b\n")
        self.check(1, "b\\a\n", 1, "a/b\n")
        self.check(0, "a a\\b\na a\n", 1, "a a\na b/a\n")

    def test_capitals_before_small_letters(self):
        self.check(0, "a B\n", 3, "B\na\n")
        self.check(0, "aBcD\n", 5, "BaDc\n")
        self.check(0, "a\\B\n", 1, "B/a\n")
        self.check(0, "zZzZ\n", 1, "ZzZz\n")

    def test_named_anew_small_letters_come_first(self):
        self.check(1, "a B\n", 1, "a\nb\n")
        self.check(1, "Z z\n", 1, "a\nb\n")
        self.check(1, "aBcD\n", 0, "abcd\n")
        self.check(1, "zZzZ\n", 0, "abab\n")

    def test_not_as_wide_as_high(self):
        self.check(0, "b a c\nd e f\n", 0, "b a c\nd e f\n")
        self.check(0, "b d\na e\nc f\n", 7, "b a c\nd e f\n")
        self.check(1, "b a c\nd e f\n", 1, "a b\nc d\ne f\n")
        self.check(0, "b aaab\n", 3, "aaba\nb\n")
        self.check(1, "b aaab\n", 1, "a\nabbb\n")

    def test_all_kinds_in_one_square_top(self):
        for how in HOWS:
            self.check(how, "a b/c\nd\\e fghi\n", 0, "a b/c\nd\\e fghi\n")
            self.check(how, "gfih c/b\nd\\e a\n", 5, "a b/c\nd\\e fghi\n")
        self.check(0, "b/a c\na abcd\n", 1, "a b\\a\ndabc c\n")
        self.check(1, "b/a c\na abcd\n", 1, "a b\\a\ncabd d\n")

    def test_a_shared_beginning_and_unlike_bytes_behind(self):
        # Behind the a may stand a row's end, a blank, a slash, a backslash or a letter, and they come in this order.
        self.check(0, "a a/b\n", 7, "a\na/b\n")
        self.check(0, "abab a\n", 3, "a\nbaba\n")
        self.check(0, "a/b abcd\n", 7, "a/b\ndcba\n")
        self.check(0, "abcd a\\b\na/b abcd\n", 4, "a/b adcb\nadcb a\\b\n")
        self.check(1, "abcd a\\b\na/b abcd\n", 4, "a/b acdb\nacdb a\\b\n")
        self.check(0, "abcd a\na a/b\n", 4, "a adcb\na\\b a\n")
        self.check(1, "abcd a\na a/b\n", 4, "a abcd\na\\d a\n")

    def test_several_patches_of_one_letter_keep_one_name(self):
        self.check(0, "c a c b\n", 3, "b\nc\na\nc\n")
        self.check(1, "c a c b\n", 1, "a\nb\na\nc\n")
        self.check(0, "d b d\nd c b\nb d d\n", 1, "b d d\nd c b\nd b d\n")
        self.check(1, "d b d\nd c b\nb d d\n", 2, "a a b\nb c a\na b a\n")

    def test_ways_of_writing_make_no_difference(self):
        self.check(0, "b/b aaaa\n", 3, "a\nb\n")
        self.check(1, "b/b aaaa\n", 1, "a\nb\n")
        for how in HOWS:
            self.assertEqual(form(how, data("baab a\\a\naabb bbbb\n")), form(how, data("b/a a\na\\b b\n")))

    def test_more_than_26_letters(self):
        backward = "ZYXWVUTSRQPONMLKJIHGFEDCBAzyxwvutsrq"
        self.check(1, text_of(3, 3, backward), 0, "abcd efgh ijkl\nmnop qrst uvwx\nyzAB CDEF GHIJ\n")
        self.check(1, text_of(4, 2, backward[:32]), 1, "abcd efgh\nijkl mnop\nqrst uvwx\nyzAB CDEF\n")
        self.check(0, text_of(2, 4, string.ascii_letters[:32]), 6, "AzyB EDCF\nsrqt wvux\nkjil onmp\ncbad gfeh\n")

    def test_all_letters(self):
        backward = "ZYXWVUTSRQPONMLKJIHGFEDCBAzyxwvutsrqponmlkjihgfedcba"
        whole = [letter * 4 for letter in backward[:4]]
        self.check(1, text_of(4, 4, "".join(whole) + backward[4:]), 0,
                   "a b c d\nefgh ijkl mnop qrst\nuvwx yzAB CDEF GHIJ\nKLMN OPQR STUV WXYZ\n")


class FormAgainstPoints(unittest.TestCase):
    def check(self, wide, high, letters):
        text = text_of(wide, high, letters)
        for how in HOWS:
            texts = [data(seen) for seen in expected_seen(how, wide, high, letters)]
            least = min(texts)
            answer = form(how, data(text))
            self.assertEqual(answer, [0, texts.index(least)] + least, (how, text))
            if how == 0:
                self.assertEqual(moved(answer[1], data(text)), [0] + answer[2:], text)

    def test_many_tops(self):
        for tops in (sample_tops(), symmetric_tops()):
            for seed, (wide, high, letters) in enumerate(tops):
                self.check(wide, high, letters)
                self.check(wide, high, relettered(letters, seed))

    def test_tops_of_many_letters(self):
        for wide, high in ((3, 3), (4, 2), (3, 4), (4, 4), (6, 6)):
            for seed in range(3):
                self.check(wide, high, sample_letters(4 * wide * high, string.ascii_letters, seed))


class OneFormForAllMoved(unittest.TestCase):
    def check(self, wide, high, letters):
        text = data(text_of(wide, high, letters))
        for how in HOWS:
            least = form(how, text)[2:]
            for m in MOTIONS:
                self.assertEqual(form(how, moved(m, text)[1:])[2:], least, (how, m, text))
            # It is a block's text of its own, and no motion finds a lesser one.
            self.assertEqual(form(how, least), [0, 0] + least)

    def test_many_tops(self):
        for tops in (sample_tops(), symmetric_tops(), pieced_tops()):
            for wide, high, letters in tops:
                self.check(wide, high, letters)

    def test_other_letters_in_their_place(self):
        for tops in (sample_tops(), symmetric_tops(), pieced_tops()):
            for seed, (wide, high, letters) in enumerate(tops):
                other = relettered(letters, seed)
                self.assertEqual(form(1, data(text_of(wide, high, letters))), form(1, data(text_of(wide, high, other))))


class Refused(unittest.TestCase):
    def test_how_above_1(self):
        for how in (2, 3, 7, 256, 4294967295):
            self.assertEqual(form(how, data("a\n")), [-1])

    def test_fault_before_how(self):
        for how in (0, 1, 2, 4294967295):
            self.assertEqual(form(how, data("a")), [-6])
            self.assertEqual(form(how, []), [-6])

    def test_length_before_fault_and_how(self):
        for how in (0, 1, 2, 4294967295):
            self.assertEqual(form(how, [0] * 1025), [-2])
            self.assertEqual(form(how, data("a\n") * 550), [-2])
            self.assertEqual(form(how, [0] * 1024), [-6])


if __name__ == "__main__":
    unittest.main()
