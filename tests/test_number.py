"""The number of a choice's class."""

import unittest

from clothchoices.tops import class_of, count, number
from helper import CHOICE_HOWS, CLOTHS, LARGEST, MANY, THIRTEEN, TWELVE, WHICHES, Pieces, choice_tops, data, text_of
from helper import top_from


def cloths(choice):
    return [int(cloth) for cloth in choice]


class NumberByHand(unittest.TestCase):
    def check(self, which, how, k, text, wanted):
        """wanted: by choice, the number of its class."""
        for choice, i in wanted.items():
            with self.subTest(which=which, how=how, k=k, text=text, choice=choice):
                self.assertEqual(number(which, how, k, data(text), cloths(choice)), [0, i])

    def test_one_patch(self):
        for text in ("a\n", "a a a\n", "a a\na a\n"):
            for which in WHICHES:
                self.check(which, 0, 3, text, {"0": 0, "1": 1, "2": 2})
                self.check(which, 1, 3, text, {"0": 0, "1": 1, "2": 2})
                self.check(which, 2, 8, text, {"0": 0, "1": 0, "2": 0, "7": 0})

    def test_two_patches(self):
        for text in ("a b\n", "a\nb\n", "a/b\n"):
            self.check(0, 0, 2, text, {"00": 0, "01": 1, "10": 2, "11": 3})
            self.check(0, 1, 2, text, {"00": 0, "01": 1, "10": 1, "11": 2})
            self.check(0, 2, 2, text, {"00": 0, "01": 1, "10": 1, "11": 0})
            self.check(1, 0, 2, text, {"01": 0, "10": 1})
            self.check(1, 1, 3, text, {"01": 0, "10": 0, "02": 1, "20": 1, "12": 2, "21": 2})
            self.check(1, 2, 3, text, {"01": 0, "10": 0, "02": 0, "20": 0, "12": 0, "21": 0})

    def test_two_patches_that_no_motion_changes(self):
        self.check(0, 1, 2, "a a b\n", {"00": 0, "01": 1, "10": 2, "11": 3})
        self.check(0, 2, 2, "a a b\n", {"00": 0, "01": 1, "10": 1, "11": 0})

    def test_not_the_first_of_its_class(self):
        for text in ("a b\nc d\n", "a b\nb a\n", "a b\nc a\n"):
            self.check(0, 1, 2, text, {"0000": 0, "1000": 1, "0010": 1, "1010": 2, "1100": 2, "1001": 3, "0110": 3,
                                       "1101": 4, "1110": 4, "1111": 5})
            self.check(0, 2, 2, text, {"1111": 0, "0111": 1, "1000": 1, "1010": 2, "1100": 2, "1001": 3})
            self.check(1, 1, 2, text, {"0110": 0, "1001": 0})

    def test_cloths_not_named_in_order(self):
        self.check(0, 2, 4, "a b\nc d\n", {"3333": 0, "3332": 1, "2333": 1, "3322": 2, "3223": 4, "3210": 6, "1032": 6})
        self.check(0, 2, 8, "a b c\n", {"777": 0, "775": 1, "577": 1, "757": 2, "765": 3, "567": 3, "407": 3})
        self.check(1, 2, 8, "a b c\n", {"757": 0, "765": 1, "407": 1})

    def test_the_last_class(self):
        self.check(0, 0, 8, "abcd\n", {"7777": 4095})
        self.check(0, 0, 2, TWELVE, {"1" * 12: 4095, "1" * 11 + "0": 4094})
        self.check(0, 0, 4, "a b c\nd e f\n", {"333333": 4095})
        self.check(0, 1, 2, "a b a c\n", {"1111": 9, "1011": 8, "1101": 8})

    def test_one_cloth(self):
        for how in CHOICE_HOWS:
            for text, patches in ((TWELVE, 12), (THIRTEEN, 13), (MANY, 144)):
                self.check(0, how, 1, text, {"0" * patches: 0})
                self.assertEqual(number(1, how, 1, data(text), [0] * patches), [-4])


class NumberAgainstPoints(unittest.TestCase):
    def check(self, which, how, k, text, choices, firsts):
        """firsts: by choice, the first of its class; choices: those that are asked."""
        classes = sorted(set(firsts.values()))
        for choice in choices:
            wanted = classes.index(firsts[choice])
            self.assertEqual(number(which, how, k, text, list(choice)), [0, wanted], (which, how, k, text, choice))

    def some(self, choices):
        """All if they are few, else the first, the last and some between."""
        last = len(choices) - 1
        return choices if last < 9 else [choices[place] for place in (0, 1, last // 3, last // 2, last - 1, last)]

    def test_many_tops(self):
        for top in choice_tops():
            pieces = Pieces(*top)
            for k in [k for k in CLOTHS if k ** len(pieces.patches) <= 260]:
                for which in WHICHES:
                    for how in CHOICE_HOWS:
                        choices = self.some(pieces.choices(which, k))
                        firsts = pieces.first_by_choice(which, how, k)
                        self.check(which, how, k, data(text_of(*top)), choices, firsts)

    def test_every_choice_of_small_tops(self):
        for text, k in (("a\n", 8), ("a b\n", 8), ("a/b\n", 5), ("a b\nc c\n", 4), ("a b c\n", 5), ("abac\n", 3),
                        ("a b\nc a\n", 3), ("a b a c\n", 3), ("a b a\na b c\n", 3), ("a/b c\na a\n", 3),
                        ("a b b e e d\na b a c e d\na a a c c c\n", 2), ("a b c\nd e a\n", 2), ("abcb adcb\n", 2)):
            pieces = Pieces(*top_from(text))
            for which in WHICHES:
                for how in CHOICE_HOWS:
                    choices = pieces.choices(which, k)
                    self.check(which, how, k, data(text), choices, pieces.first_by_choice(which, how, k))

    def test_at_the_bound(self):
        for text, k in ((TWELVE, 2), ("a b\nc a\n", 8), ("a b c\nd e a\n", 4)):
            pieces = Pieces(*top_from(text))
            for which in WHICHES:
                for how in CHOICE_HOWS:
                    choices = self.some(pieces.choices(which, k))
                    self.check(which, how, k, data(text), choices, pieces.first_by_choice(which, how, k))


class EachChoiceIsOfOneClass(unittest.TestCase):
    TOPS = (("a b\n", 4), ("abcd\n", 2), ("a b\nc a\n", 2), ("a b c\n", 3), ("a b\nc c\n", 3), ("a b a c\n", 2),
            ("a/b c\na a\n", 2), ("b a a\na b a\na a b\n", 2))

    def test_the_number_of_a_class_first_choice(self):
        for text, k in self.TOPS:
            for which in WHICHES:
                for how in CHOICE_HOWS:
                    for i in range(count(which, how, k, data(text))[1]):
                        first = class_of(which, how, k, i, data(text))[1:]
                        self.assertEqual(number(which, how, k, data(text), first), [0, i], (which, how, k, text, i))

    def test_one_number_just_if_the_same(self):
        for text, k in self.TOPS:
            pieces = Pieces(*top_from(text))
            for which in WHICHES:
                choices = pieces.choices(which, k)
                for how in CHOICE_HOWS:
                    classes = count(which, how, k, data(text))[1]
                    numbers = [number(which, how, k, data(text), list(choice))[1] for choice in choices]
                    # Every class has its choice, and no number is beyond them.
                    self.assertEqual(sorted(set(numbers)), list(range(classes)))
                    for choice, i in zip(choices, numbers):
                        alike = pieces.same_as(how, k, choice)
                        for other, other_i in zip(choices, numbers):
                            self.assertEqual(i == other_i, other in alike, (which, how, k, text, choice, other))


class NoSuchChoice(unittest.TestCase):
    def check(self, which, k, text, choice):
        for how in CHOICE_HOWS:
            self.assertEqual(number(which, how, k, data(text), choice), [-4], (which, how, k, text, choice))

    def test_too_short_or_too_long(self):
        for which in WHICHES:
            for choice in ([], [0], [1], [0, 1, 0], [0, 1, 2], [0, 1] * 100, [0] * 200, [LARGEST] * 200):
                self.check(which, 3, "a b\n", choice)
            for choice in ([], [0, 0], [0, 1], [0] * 200):
                self.check(which, 3, "a\n", choice)
            for choice in ([], [0] * 143, [0] * 145, [0] * 200):
                self.check(which, 1, MANY, choice)

    def test_as_long_as_there_are_letters(self):
        # Two letters, but three patches; three squares, but two patches.
        self.check(0, 2, "a b a\n", [0, 1])
        self.check(0, 2, "a a b\n", [0, 0, 1])

    def test_no_such_cloth(self):
        for which in WHICHES:
            for k in CLOTHS:
                for cloth in (k, k + 1, 9, 256, LARGEST):
                    self.check(which, k, "a\n", [cloth])
                    self.check(which, k, "a b\n", [cloth, 0])
                    self.check(which, k, "a b\n", [0, cloth])
                self.assertEqual(number(which, 0, k, data("a\n"), [k - 1]), [0, k - 1])
            self.check(which, 2, "a b\n", [2, 3])
            self.check(which, 8, "a b\n", [8, 9])

    def test_not_proper(self):
        for text, k, choice in (("a b\n", 2, "00"), ("a b\n", 2, "11"), ("a b\n", 1, "00"), ("a b\nc d\n", 4, "0012"),
                                ("abcd\n", 3, "0120"), ("a b\nc c\n", 3, "011"), ("a b a\n", 3, "011"),
                                ("a b\nb a\n", 2, "0101")):
            self.check(1, k, text, cloths(choice))
            for how in CHOICE_HOWS:
                self.assertEqual(number(0, how, k, data(text), cloths(choice))[0], 0)

    def test_just_4096_choices(self):
        for k, text, patches in ((2, TWELVE, 12), (8, "abcd\n", 4), (4, "a b c\nd e f\n", 6)):
            self.assertEqual(number(0, 0, k, data(text), [0] * patches), [0, 0])
            self.check(0, k, text, [0] * (patches + 1))
            self.check(0, k, text, [0] * (patches - 1))

    def test_proper_at_corners(self):
        for how in CHOICE_HOWS:
            self.assertEqual(number(1, how, 2, data("a b\nc d\n"), [0, 1, 1, 0]), [0, 0])
            self.assertEqual(number(1, how, 2, data("abcd\n"), [0, 1, 0, 1]), [0, 0])


if __name__ == "__main__":
    unittest.main()
