"""What the three calls on choices refuse alike, and in which order."""

import unittest

from clothchoices.tops import class_of, count, number
from helper import CHOICE_HOWS, LARGEST, MANY, THIRTEEN, TWELVE, WHICHES, data

WRONG = [(2, 0, 2), (3, 0, 2), (LARGEST, 0, 2), (0, 3, 2), (1, 4, 2), (0, LARGEST, 2), (0, 0, 0), (1, 2, 0), (0, 0, 9),
         (1, 1, 10), (0, 2, LARGEST), (2, 3, 0), (2, 3, 9), (LARGEST, LARGEST, LARGEST)]
RIGHT = [(0, 0, 2), (1, 2, 8)]
CHOICES = ([], [0], [0, 1], [0] * 13, [0] * 144, [LARGEST] * 200)


class Refused(unittest.TestCase):
    def check(self, which, how, k, text, wanted):
        self.assertEqual(count(which, how, k, text), [wanted], (which, how, k))
        for i in (0, 1, 4096, LARGEST):
            self.assertEqual(class_of(which, how, k, i, text), [wanted], (which, how, k, i))
        for choice in CHOICES:
            self.assertEqual(number(which, how, k, text, choice), [wanted], (which, how, k, choice))

    def test_out_of_range(self):
        for which, how, k in WRONG:
            for text in ("a\n", "a b\n", TWELVE):
                self.check(which, how, k, data(text), -1)

    def test_the_edges_are_taken(self):
        for which in WHICHES:
            for how in CHOICE_HOWS:
                for k in (1, 8):
                    last = 0 if how == 2 else k - 1
                    self.assertEqual(count(which, how, k, data("a\n")), [0, last + 1])
                    self.assertEqual(class_of(which, how, k, last, data("a\n")), [0, last])
                    self.assertEqual(number(which, how, k, data("a\n"), [k - 1]), [0, last])

    def test_too_many_before_no_such_class_and_no_such_choice(self):
        for which in WHICHES:
            for how in CHOICE_HOWS:
                for k, text in ((2, THIRTEEN), (8, "abcd e\n"), (3, "abcd efgh\n"), (2, MANY), (8, MANY)):
                    self.check(which, how, k, data(text), -8)

    def test_out_of_range_before_too_many(self):
        for which, how, k in WRONG:
            for text in (THIRTEEN, MANY):
                self.check(which, how, k, data(text), -1)

    def test_fault_before_range(self):
        for which, how, k in WRONG + RIGHT:
            for text in ([], data("a"), data("a\n") * 512, data(MANY + "\n")):
                self.check(which, how, k, text, -6)

    def test_length_before_fault_and_range(self):
        for which, how, k in WRONG + RIGHT:
            for text in ([0] * 1025, data("a\n") * 513, [97] * 1100):
                self.check(which, how, k, text, -2)


if __name__ == "__main__":
    unittest.main()
