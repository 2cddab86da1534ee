import unittest

from clothchoices.tops import form, keeps, moved, same
from helper import HOWS, MOTIONS, data, expected_moved, expected_seen, pieced_tops, relettered, sample_letters
from helper import sample_tops, symmetric_tops, text_of


class SameByHand(unittest.TestCase):
    def check(self, how, text, other, wanted):
        with self.subTest(how=how, text=text, other=other):
            self.assertEqual(same(how, data(text), data(other)), [0] + wanted)

    def test_each_motion_of_a_top_that_none_keeps(self):
        for text in ("abcd efgh\n", "a b c\nd e f\n", "a b/c\nd\\e fghi\n"):
            for m in MOTIONS:
                other = bytes(moved(m, data(text))[1:]).decode("latin-1")
                self.check(0, text, other, [1, m])

    def test_it_is_a_motion_of_the_first(self):
        self.check(0, "a b\nc d\n", "c a\nd b\n", [1, 1])
        self.check(0, "c a\nd b\n", "a b\nc d\n", [1, 3])
        self.check(0, "abcd\n", "dabc\n", [1, 1])
        self.check(0, "dabc\n", "abcd\n", [1, 3])

    def test_with_itself(self):
        for how in HOWS:
            for text in ("a\n", "a b\n", "a/b c\\d\n", "a b/c\nd\\e fghi\n", "a b a\nb c b\na b a\n"):
                self.check(how, text, text, [1, 0])

    def test_alike_only_by_names(self):
        for text, other, motion in (("a\n", "b\n", 0), ("a b\n", "b c\n", 0), ("a b a c\n", "Z y Z x\n", 0),
                                    ("a b a c\n", "x Z y Z\n", 2), ("a b a c\n", "x\nZ\ny\nZ\n", 3),
                                    ("abcd\n", "acbd\n", 0), ("a b\nc d\n", "a d\nb c\n", 0),
                                    ("a/b\n", "c\\a\n", 1), ("a/b a\n", "B/a B\n", 0), ("a A\n", "A b\n", 0)):
            self.check(0, text, other, [0, 0])
            self.check(1, text, other, [1, motion])

    def test_not_alike(self):
        for how in HOWS:
            for text, other in (("a b a c\n", "a b c a\n"), ("a b\n", "a a\n"), ("a a\n", "a b\n"), ("a/b\n", "abab\n"),
                                ("abab\n", "abac\n"), ("a b a\n", "a b c\n"), ("a b c\n", "a b a\n"),
                                ("a b\nb a\n", "a b\nc a\n"), ("a b\nb a\n", "a a\nb b\n"),
                                ("a/b a\n", "a/b b/a\n"), ("a a/b\n", "a b/c\n")):
                self.check(how, text, other, [0, 0])

    def test_unlike_sizes(self):
        for how in HOWS:
            self.check(how, "a\n", "a a\n", [0, 0])
            self.check(how, "a a\n", "a\n", [0, 0])
            self.check(how, "a a\na a\n", "a a a a\n", [0, 0])
            self.check(how, "a a a a\n", "a a\na a\n", [0, 0])
            self.check(how, "a a a\na a a\n", "a a a a a a\n", [0, 0])
            self.check(how, "a b\n", "a b\na b\n", [0, 0])

    def test_one_size_turned(self):
        for how in HOWS:
            self.check(how, "a a\na a\na a\n", "a a a\na a a\n", [1, 1])
            self.check(how, "a a a\na a a\n", "a a\na a\na a\n", [1, 1])
            # All letters in the same order, but neither turned nor mirrored.
            self.check(how, "a b\nc d\ne c\n", "a b c\nd e c\n", [0, 0])
        self.check(0, "a b\nc d\ne f\n", "e c a\nf d b\n", [1, 1])
        self.check(0, "a b\nc d\ne f\n", "b d f\na c e\n", [1, 3])
        self.check(0, "a b\nc d\ne f\n", "f d b\ne c a\n", [1, 5])
        self.check(0, "a b\nc d\ne f\n", "a c e\nb d f\n", [1, 7])
        self.check(0, "a b\nc d\ne f\n", "a b c\nd e f\n", [0, 0])
        self.check(1, "a b\nc d\ne f\n", "a b c\nd e f\n", [1, 1])

    def test_one_text_longer_than_the_other(self):
        for how in HOWS:
            self.check(how, "a/a bbbb\n", "a b\n", [1, 0])
            self.check(how, "a b\n", "a\\a b/b\n", [1, 0])
            self.check(how, "abba\n", "a/b\n", [1, 0])
            self.check(how, "a\\b\n", "aabb\n", [1, 0])
        self.check(0, "aaaa b/b\n", "b\na\n", [1, 3])
        self.check(1, "aaaa b/b\n", "b\na\n", [1, 1])

    def test_the_first_of_several_motions(self):
        self.check(0, "a/b\n", "a\\b\n", [1, 1])
        self.check(0, "a\\b\n", "a/b\n", [1, 3])
        self.check(0, "a b\n", "b a\n", [1, 2])
        self.check(0, "a\nb\n", "b\na\n", [1, 2])
        self.check(0, "a\nb\n", "a b\n", [1, 3])
        self.check(0, "a b\nb a\n", "b a\na b\n", [1, 1])
        self.check(1, "a b\n", "b a\n", [1, 0])
        self.check(1, "a\\b\n", "a/b\n", [1, 1])
        self.check(1, "a b\nb a\n", "b a\na b\n", [1, 0])

    def test_mirrored_alone(self):
        # No turn takes one to the other, so the motion is 4 or more.
        self.check(0, "a b\nc d\n", "b a\nd c\n", [1, 4])
        self.check(1, "a b a\nc a a\n", "a b a\na a c\n", [1, 4])
        self.check(1, "a b a\nc a a\n", "x y x\nx x z\n", [1, 4])


class SameAgainstPoints(unittest.TestCase):
    def check(self, text, other, seen, wanted):
        """seen: by how, the first's eight motions; wanted: by how, the other as it is seen."""
        for how in HOWS:
            answer = [0, 1, seen[how].index(wanted[how])] if wanted[how] in seen[how] else [0, 0, 0]
            self.assertEqual(same(how, data(text), data(other)), answer, (how, text, other))

    def test_a_top_and_its_moved_ones(self):
        for tops in (sample_tops(), symmetric_tops()):
            for seed, (wide, high, letters) in enumerate(tops):
                text = text_of(wide, high, letters)
                seen = [expected_seen(how, wide, high, letters) for how in HOWS]
                m = seed % 8
                other = expected_moved(m, wide, high, letters)
                self.check(text, text_of(*other), seen, [seen[how][m] for how in HOWS])
                # With other letters it is what it was by how 1, but by how 0 most often not.
                named = other[0], other[1], relettered(other[2], seed)
                self.check(text, text_of(*named), seen, [expected_seen(0, *named)[0], seen[1][m]])

    def test_tops_by_pairs(self):
        tops = [(1, 1, sample_letters(4, "abC", seed)) for seed in range(30)]
        tops += [(2, 1, sample_letters(8, "ab", seed)) for seed in range(20)]
        tops += [(1, 2, sample_letters(8, "ab", seed)) for seed in range(20)]
        seen = [[expected_seen(how, *top) for how in HOWS] for top in tops]
        for first, top in enumerate(tops):
            for second, other in enumerate(tops):
                wanted = [seen[second][how][0] for how in HOWS]
                self.check(text_of(*top), text_of(*other), seen[first], wanted)


class OneLeastFormJustIfAlike(unittest.TestCase):
    def check(self, how, texts):
        forms = [form(how, text)[2:] for text in texts]
        found = set()
        for text, least in zip(texts, forms):
            for other, other_least in zip(texts, forms):
                alike = same(how, text, other)[1]
                self.assertEqual(alike, int(least == other_least), (how, text, other))
                found.add(alike)
        self.assertEqual(found, {0, 1})

    def test_small_tops(self):
        tops = [top for top in sample_tops() if top[0] * top[1] == 1]
        tops += [(2, 1, sample_letters(8, "ab", seed)) for seed in range(40)]
        tops += [(1, 2, sample_letters(8, "ab", seed)) for seed in range(40)]
        for how in HOWS:
            self.check(how, [data(text_of(*top)) for top in tops])

    def test_larger_tops(self):
        tops = list(symmetric_tops()) + list(pieced_tops())[::30]
        tops += [expected_moved(seed % 8, *top) for seed, top in enumerate(tops)]
        tops += [(wide, high, relettered(letters, seed)) for seed, (wide, high, letters) in enumerate(tops)]
        for how in HOWS:
            self.check(how, [data(text_of(*top)) for top in tops])


class BothWays(unittest.TestCase):
    def test_the_told_motion_takes_the_first_to_the_second(self):
        for wide, high, letters in list(symmetric_tops()) + list(pieced_tops()):
            text = data(text_of(wide, high, letters))
            for m in MOTIONS:
                other = moved(m, text)[1:]
                for how in HOWS:
                    answer = same(how, text, other)
                    self.assertEqual(answer[:2], [0, 1])
                    self.assertLessEqual(answer[2], m)
                    self.assertEqual(same(how, other, text)[:2], [0, 1])
                self.assertEqual(moved(same(0, text, other)[2], text)[1:], other)

    def test_what_keeps_a_top_takes_it_to_itself(self):
        for wide, high, letters in symmetric_tops():
            text = data(text_of(wide, high, letters))
            for m, kept in enumerate(keeps(text)[1:]):
                other = moved(m, text)[1:]
                if kept == 3:
                    self.assertEqual(same(0, text, other), [0, 1, 0])
                if kept >= 2:
                    self.assertEqual(same(1, text, other), [0, 1, 0])


class Refused(unittest.TestCase):
    FINE = data("a\n")
    FAULTY = data("a")
    LONG = data("a\n") * 513

    def test_how_above_1(self):
        for how in (2, 3, 7, 256, 4294967295):
            self.assertEqual(same(how, self.FINE, self.FINE), [-1])
            self.assertEqual(same(how, self.FINE, data("a b\n")), [-1])

    def test_fault_of_either_before_how(self):
        for how in (0, 1, 2, 4294967295):
            for faulty in (self.FAULTY, [], [0] * 1024, data("a\n") * 512):
                self.assertEqual(same(how, faulty, self.FINE), [-6])
                self.assertEqual(same(how, self.FINE, faulty), [-6])
                self.assertEqual(same(how, faulty, faulty), [-6])

    def test_length_of_either_before_fault_and_how(self):
        for how in (0, 1, 2, 4294967295):
            for long in (self.LONG, [0] * 1025, [97] * 1100):
                for other in (self.FINE, self.FAULTY, [], long):
                    self.assertEqual(same(how, long, other), [-2])
                    self.assertEqual(same(how, other, long), [-2])

    def test_lengths_are_not_added_up(self):
        largest = data((" ".join(["abcd"] * 6) + "\n") * 6)
        self.assertEqual(same(0, largest, largest), [0, 1, 0])
        self.assertEqual(same(0, [0] * 1024, [0] * 1024), [-6])


if __name__ == "__main__":
    unittest.main()
