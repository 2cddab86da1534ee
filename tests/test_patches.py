"""The patches themselves, which the calls tell of only by what keeps a piecing."""

import unittest

from clothchoices.tops import patches_of, top_of
from helper import data, expected_patches, pieced_tops, sample_tops, symmetric_tops, text_of, triangles


def patches(text):
    return patches_of(top_of(data(text)))


class Patches(unittest.TestCase):
    def test_within_a_square(self):
        self.assertEqual(patches("a\n"), [0, 0, 0, 0])
        self.assertEqual(patches("a/b\n"), [0, 1, 1, 0])
        self.assertEqual(patches("a\\b\n"), [0, 0, 1, 1])
        self.assertEqual(patches("abcd\n"), [0, 1, 2, 3])
        self.assertEqual(patches("abab\n"), [0, 1, 2, 3])
        self.assertEqual(patches("abbb\n"), [0, 1, 1, 1])

    def test_from_square_to_square(self):
        self.assertEqual(patches("a a\n"), [0] * 8)
        self.assertEqual(patches("a\na\n"), [0] * 8)
        self.assertEqual(patches("abcd efgb\n"), [0, 1, 2, 3, 4, 5, 6, 1])
        self.assertEqual(patches("abcd\ncefg\n"), [0, 1, 2, 3, 2, 4, 5, 6])

    def test_corners_and_row_ends_are_apart(self):
        self.assertEqual(patches("a b\nb a\n"), [0] * 4 + [1] * 4 + [2] * 4 + [3] * 4)
        self.assertEqual(patches("b a\na c\n"), [0] * 4 + [1] * 4 + [2] * 4 + [3] * 4)

    def test_ways_that_wind(self):
        text = "a b b b\na b a b\na a a b\n"
        squares = [0, 1, 1, 1, 0, 1, 0, 1, 0, 0, 0, 1]
        self.assertEqual(patches(text), [number for number in squares for _ in range(4)])

    def test_many_tops(self):
        for tops in (sample_tops(), symmetric_tops(), pieced_tops()):
            for wide, high, letters in tops:
                numbers = patches(text_of(wide, high, letters))
                self.assertEqual(list(dict.fromkeys(numbers)), list(range(max(numbers) + 1)))
                members = {}
                for number, quarter in zip(numbers, triangles(wide, high)):
                    members.setdefault(number, []).append(quarter)
                self.assertEqual({frozenset(some) for some in members.values()},
                                 expected_patches(wide, high, letters))


if __name__ == "__main__":
    unittest.main()
