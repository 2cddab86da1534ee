"""How many classes of choices there are, and the first choice of each."""

import unittest

from clothchoices.tops import class_of, count, moved, same
from helper import CHOICE_HOWS, CLOTHS, LARGEST, MANY, THIRTEEN, TWELVE, WHICHES, Pieces, choice_tops, data
from helper import expected_moved, expected_patches, relettered, text_of, top_from


def strip(patches):
    """A top with this many patches, from 1 to 24."""
    whole = patches // 4
    squares = ["abcd"] * whole + [["", "e", "e/f", "efge"][patches % 4]] * (patches % 4 > 0)
    return " ".join(squares) + "\n"


class ClassesByHand(unittest.TestCase):
    def check(self, which, how, k, text, wanted):
        with self.subTest(which=which, how=how, k=k, text=text):
            self.assertEqual(count(which, how, k, data(text)), [0, len(wanted)])
            for i, choice in enumerate(wanted):
                self.assertEqual(class_of(which, how, k, i, data(text)), [0] + [int(cloth) for cloth in choice])
            for i in (len(wanted), len(wanted) + 1, LARGEST):
                self.assertEqual(class_of(which, how, k, i, data(text)), [-4])

    def test_one_patch(self):
        for text in ("a\n", "a a a\n", "a a\na a\n"):
            for which in WHICHES:
                self.check(which, 0, 3, text, "012")
                self.check(which, 1, 3, text, "012")
                self.check(which, 2, 3, text, "0")
                self.check(which, 2, 8, text, "0")

    def test_two_patches(self):
        for text in ("a b\n", "a\nb\n", "a/b\n", "a\\b\n", "b a\n"):
            self.check(0, 0, 2, text, ["00", "01", "10", "11"])
            self.check(0, 1, 2, text, ["00", "01", "11"])
            self.check(0, 2, 2, text, ["00", "01"])
            self.check(1, 0, 2, text, ["01", "10"])
            self.check(1, 1, 2, text, ["01"])
            self.check(1, 2, 2, text, ["01"])
            self.check(1, 1, 3, text, ["01", "02", "12"])

    def test_two_patches_that_no_motion_changes(self):
        for text in ("a a b\n", "a b\na a\n", "a a a\na b a\na a a\n"):
            self.check(0, 0, 2, text, ["00", "01", "10", "11"])
            self.check(0, 1, 2, text, ["00", "01", "10", "11"])
            self.check(0, 2, 2, text, ["00", "01"])
            self.check(1, 1, 2, text, ["01", "10"])
            self.check(1, 2, 2, text, ["01"])

    def test_four_squares(self):
        for text in ("a b\nc d\n", "a b\nb a\n", "a b\nc a\n"):
            self.check(0, 1, 2, text, ["0000", "0001", "0011", "0110", "0111", "1111"])
            self.check(0, 2, 2, text, ["0000", "0001", "0011", "0110"])
            self.check(1, 0, 2, text, ["0110", "1001"])
            self.check(1, 1, 2, text, ["0110"])
            self.check(1, 2, 4, text, ["0110", "0112", "0123"])

    def test_four_quarters(self):
        for text in ("abcd\n", "abab\n", "abac\n"):
            self.check(0, 1, 2, text, ["0000", "0001", "0011", "0101", "0111", "1111"])
            self.check(0, 2, 2, text, ["0000", "0001", "0011", "0101"])
            self.check(1, 0, 2, text, ["0101", "1010"])
            self.check(1, 2, 4, text, ["0101", "0102", "0123"])

    def test_it_is_the_piecing_that_counts(self):
        # Motion 2 keeps the piecing but not the letters, and takes the row's end to its beginning.
        self.check(0, 1, 2, "a b a c\n",
                   ["0000", "0001", "0010", "0011", "0101", "0110", "0111", "1001", "1011", "1111"])
        self.check(1, 1, 2, "a b a c\n", ["0101"])
        self.check(1, 0, 2, "a b a c\n", ["0101", "1010"])

    def test_patches_of_one_letter_have_cloths_of_their_own(self):
        self.check(0, 0, 2, "a b a\n", ["000", "001", "010", "011", "100", "101", "110", "111"])
        self.check(1, 0, 2, "a b a\n", ["010", "101"])
        self.check(1, 1, 3, "a b a\n", ["010", "012", "020", "021", "101", "102", "121", "202", "212"])

    def test_patches_that_meet_at_a_corner_are_not_beside_one_another(self):
        self.check(1, 0, 2, "a b\nb a\n", ["0110", "1001"])
        self.check(1, 2, 2, "abab\n", ["0101"])

    def test_fewer_cloths_than_there_might_be(self):
        for k in (3, 4, 8):
            self.check(0, 2, k, "a b\n", ["00", "01"])
            self.check(0, 2, k, "a b c\n", ["000", "001", "010", "012"])
            self.check(1, 2, k, "a b c\n", ["010", "012"])
        self.check(0, 2, 2, "a b c\n", ["000", "001", "010"])
        self.check(0, 2, 1, "a b c\n", ["000"])

    def test_moved_and_named_back(self):
        # Motion 2 makes 0110 of 0110, but 1100 of 0011, which is 0011 by other names.
        self.check(0, 2, 2, "a b c d\n", ["0000", "0001", "0010", "0011", "0101", "0110"])
        self.check(0, 1, 2, "a b c d\n",
                   ["0000", "0001", "0010", "0011", "0101", "0110", "0111", "1001", "1011", "1111"])

    def test_no_proper_choice(self):
        for how in CHOICE_HOWS:
            self.check(1, how, 1, "a b\n", [])
            self.check(1, how, 1, TWELVE, [])
            self.check(1, how, 2, "a b\nc c\n", [])
            self.check(1, how, 2, "a/b c\na c\n", [])
            self.check(1, how, 1, "a\n", ["0"])

    def test_one_cloth(self):
        for how in CHOICE_HOWS:
            for text, patches in ((TWELVE, 12), (THIRTEEN, 13), (MANY, 144), (strip(20), 20)):
                self.check(0, how, 1, text, ["0" * patches])
                self.check(1, how, 1, text, [])


class ClassesAgainstPoints(unittest.TestCase):
    def some(self, classes):
        """All numbers of classes if they are few, else the first, the last and some between."""
        last = len(classes) - 1
        return range(len(classes)) if last < 12 else [0, 1, last // 3, last // 2, last - 1, last]

    def check(self, which, how, k, text, pieces):
        classes = pieces.classes(which, how, k)
        self.assertEqual(count(which, how, k, text), [0, len(classes)], (which, how, k, text))
        for i in self.some(classes):
            self.assertEqual(class_of(which, how, k, i, text), [0] + classes[i], (which, how, k, i, text))
        for i in (len(classes), LARGEST):
            self.assertEqual(class_of(which, how, k, i, text), [-4], (which, how, k, i, text))

    def test_many_tops(self):
        kept = set()
        for top in choice_tops():
            pieces = Pieces(*top)
            kept.add(len(pieces.motions))
            # More choices take long: some tops are held against them below.
            for k in [k for k in CLOTHS if k ** len(pieces.patches) <= 520]:
                for which in WHICHES:
                    for how in CHOICE_HOWS:
                        self.check(which, how, k, data(text_of(*top)), pieces)
        self.assertEqual(kept, {1, 2, 4, 8})

    def test_every_class_of_some_tops(self):
        for text, k in (("abcd\n", 4), ("a b\nc a\n", 3), ("a b a\na b c\n", 3), ("a b c\nd e a\n", 2),
                        ("abcb adcb\n", 2), ("a b b e e d\na b a c e d\na a a c c c\n", 3),
                        ("a b a\nb c b\na b a\n", 2)):
            pieces = Pieces(*top_from(text))
            for which in WHICHES:
                for how in CHOICE_HOWS:
                    told = [class_of(which, how, k, i, data(text)) for i in range(count(which, how, k, data(text))[1])]
                    self.assertEqual(told, [[0] + choice for choice in pieces.classes(which, how, k)])

    def test_at_the_bound(self):
        for text, k in ((TWELVE, 2), ("a b\nc a\n", 8), ("a b c\nd e a\n", 4)):
            pieces = Pieces(*top_from(text))
            self.assertEqual(k ** len(pieces.patches), 4096)
            for which in WHICHES:
                for how in CHOICE_HOWS:
                    self.check(which, how, k, data(text), pieces)


class AllInAll(unittest.TestCase):
    def test_k_to_the_number_of_patches(self):
        for top in choice_tops():
            pieces = Pieces(*top)
            for k in filter(pieces.takes, CLOTHS):
                self.assertEqual(count(0, 0, k, data(text_of(*top))), [0, k ** len(pieces.patches)])

    def test_the_last_choice_of_all(self):
        for text, patches, k in (("abcd\n", 4, 8), (TWELVE, 12, 2), ("a b c\nd e f\n", 6, 4), ("a b\n", 2, 7)):
            last = k ** patches - 1
            self.assertEqual(class_of(0, 0, k, last, data(text)), [0] + [k - 1] * patches)
            self.assertEqual(class_of(0, 0, k, last + 1, data(text)), [-4])


class AlikeTopsHaveAsManyClasses(unittest.TestCase):
    def check(self, seed, top, cloths):
        text = data(text_of(*top))
        other = moved(1 + seed % 7, text)[1:]
        wide, high, letters = expected_moved(seed % 8, *top)
        named = data(text_of(wide, high, relettered(letters, seed)))
        self.assertEqual(same(0, text, other)[:2], [0, 1])
        self.assertEqual(same(1, text, named)[:2], [0, 1])
        for k in cloths:
            for which in WHICHES:
                for how in CHOICE_HOWS:
                    wanted = count(which, how, k, text)
                    self.assertEqual(count(which, how, k, other), wanted, (which, how, k, text, other))
                    self.assertEqual(count(which, how, k, named), wanted, (which, how, k, text, named))

    def test_many_tops(self):
        for seed, top in enumerate(choice_tops()):
            self.check(seed, top, [k for k in CLOTHS if k ** len(expected_patches(*top)) <= 130])

    def test_every_k(self):
        for seed, text in enumerate(("a b/c\nd a\n", "abac\n", "a b\nc c\n", "a/b c\na a\n", "a b\n", "a a a\n", MANY)):
            self.check(seed, top_from(text), CLOTHS)


class TheBound(unittest.TestCase):
    def test_every_k_and_many_numbers_of_patches(self):
        for patches in range(1, 25):
            text = data(strip(patches))
            self.assertEqual(len(Pieces(*top_from(strip(patches))).patches), patches)
            for k in CLOTHS:
                choices = k ** patches
                self.assertEqual(count(0, 0, k, text), [0, choices] if choices <= 4096 else [-8], (k, patches))
                first = [0] + [0] * patches
                self.assertEqual(class_of(0, 0, k, 0, text), first if choices <= 4096 else [-8], (k, patches))

    def test_just_4096_and_above(self):
        for k, text in ((2, TWELVE), (8, "abcd\n"), (4, "a b c\nd e f\n")):
            self.assertEqual(count(0, 0, k, data(text)), [0, 4096])
            self.assertEqual(class_of(0, 0, k, 4095, data(text))[0], 0)
        for k, text in ((2, THIRTEEN), (8, "abcd e\n"), (3, "abcd efgh\n"), (4, "a b c\nd e f/g\n"), (2, MANY),
                        (8, MANY)):
            for which in WHICHES:
                for how in CHOICE_HOWS:
                    self.assertEqual(count(which, how, k, data(text)), [-8])
                    self.assertEqual(class_of(which, how, k, 0, data(text)), [-8])

    def test_all_choices_count_not_the_proper_ones(self):
        # Two proper choices there are, and yet the bound is for all.
        self.assertEqual(count(1, 2, 2, data(THIRTEEN)), [-8])
        self.assertEqual(class_of(1, 2, 2, 0, data(THIRTEEN)), [-8])


if __name__ == "__main__":
    unittest.main()
