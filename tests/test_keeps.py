import unittest

from clothchoices.tops import keeps, moved
from helper import MOTIONS, data, done_after, expected_keeps, pieced_tops, sample_tops, symmetric_tops, text_of


class KeepsByHand(unittest.TestCase):
    def check(self, text, wanted):
        self.assertEqual(keeps(data(text)), [0] + wanted, text)

    def test_one_patch(self):
        self.check("a\n", [3] * 8)
        self.check("a a\na a\n", [3] * 8)
        self.check("a a a\n", [3, 0, 3, 0, 3, 0, 3, 0])

    def test_letters_changed_about(self):
        self.check("a b\n", [3, 0, 2, 0, 2, 0, 3, 0])
        self.check("a\nb\n", [3, 0, 2, 0, 3, 0, 2, 0])
        self.check("a/b\n", [3, 0, 2, 0, 0, 2, 0, 3])
        self.check("a b\nc d\n", [3, 2, 2, 2, 2, 2, 2, 2])
        self.check("abcd\n", [3, 2, 2, 2, 2, 2, 2, 2])

    def test_no_more_than_the_piecing(self):
        self.check("a b a c\n", [3, 0, 1, 0, 1, 0, 3, 0])
        self.check("a b a\na b c\n", [3, 0, 0, 0, 0, 0, 1, 0])
        self.check("a b c\nd e a\n", [3, 0, 2, 0, 1, 0, 1, 0])

    def test_opposite_quarters_are_not_side_by_side(self):
        # Were upper and lower one patch, quarter turns would not keep the piecing.
        self.check("abac\n", [3, 1, 2, 1, 2, 1, 3, 1])

    def test_not_the_piecing(self):
        self.check("a a b\n", [3, 0, 0, 0, 0, 0, 3, 0])
        self.check("a b\nb b\n", [3, 0, 0, 0, 0, 0, 0, 3])

    def test_several_patches_of_one_letter(self):
        self.check("a b\nb a\n", [3, 2, 3, 2, 2, 3, 2, 3])
        self.check("abab\n", [3, 2, 3, 2, 3, 2, 3, 2])

    def test_corners_are_not_side_by_side(self):
        # Were the two a one patch, the mirror would not keep the piecing.
        self.check("a b\nc a\n", [3, 1, 2, 1, 1, 3, 1, 2])

    def test_one_link_of_a_winding_patch(self):
        # Left and right differ by nothing but one arm of a U, which has a letter of its own on the right.
        for text in ("a b b e e d\na b a c e d\na a a c c c\n", "a b b e e c\na b a d e c\na a a c c c\n"):
            self.check(text, [3, 0, 0, 0, 0, 0, 0, 0])
            for m in MOTIONS:
                self.assertEqual(keeps(moved(m, data(text))[1:]), [0, 3, 0, 0, 0, 0, 0, 0, 0], (text, m))

    def test_letters_of_one_name_apart_from_their_case(self):
        self.check("a A\n", [3, 0, 2, 0, 2, 0, 3, 0])

    def test_ways_of_writing_make_no_difference(self):
        self.assertEqual(keeps(data("a/a abba\n")), keeps(data("a a/b\n")))
        self.assertEqual(keeps(data("aabb aaaa\n")), keeps(data("a\\b a\n")))

    def test_the_largest(self):
        self.check(("a a a a a a\n") * 6, [3] * 8)
        self.check((" ".join(["abcd"] * 6) + "\n") * 6, [3, 2, 2, 2, 2, 2, 2, 2])


class KeepsAgainstPoints(unittest.TestCase):
    def test_many_tops(self):
        seen = set()
        for tops in (sample_tops(), symmetric_tops(), pieced_tops()):
            for wide, high, letters in tops:
                text = text_of(wide, high, letters)
                wanted = expected_keeps(wide, high, letters)
                seen.update(wanted)
                self.assertEqual(keeps(data(text)), [0] + wanted, text)
        self.assertEqual(seen, {0, 1, 2, 3})


class OneAfterAnother(unittest.TestCase):
    def test_what_keeps_can_be_done_one_after_another(self):
        for tops in (sample_tops(), symmetric_tops(), pieced_tops()):
            for wide, high, letters in tops:
                text = text_of(wide, high, letters)
                hows = keeps(data(text))[1:]
                self.assertEqual(hows[0], 3)
                for first in MOTIONS:
                    for then in MOTIONS:
                        least = min(hows[first], hows[then])
                        self.assertGreaterEqual(hows[done_after(first, then)], least, (text, first, then))


class Refused(unittest.TestCase):
    def test_fault(self):
        self.assertEqual(keeps([]), [-6])
        self.assertEqual(keeps(data("a")), [-6])
        self.assertEqual(keeps([0] * 1024), [-6])

    def test_length_before_fault(self):
        self.assertEqual(keeps([0] * 1025), [-2])
        self.assertEqual(keeps(data("a\n") * 550), [-2])


if __name__ == "__main__":
    unittest.main()
