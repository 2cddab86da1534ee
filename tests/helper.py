"""What the tests share: texts as lists of bytes, sample tops, and a second way to the answers.

The second way treats a quarter as a triangle, a set of three corner points, and a motion as a
motion of points: it knows nothing of how quarters are numbered.
"""

import itertools
import string

MOTIONS = range(8)
HOWS = (0, 1)
WHICHES = (0, 1)
CHOICE_HOWS = (0, 1, 2)
CLOTHS = range(1, 9)
MOST_CHOICES = 4096
LARGEST = 4294967295

# Tops of twelve patches, of thirteen, and of as many as there may be.
TWELVE = "a b c d e f\ng h i j k l\n"
THIRTEEN = "a b c d e f\ng h i j k l/m\n"
MANY = (" ".join(["abcd"] * 6) + "\n") * 6

EXPANDED = {"one": (0, 0, 0, 0), "slash": (0, 1, 1, 0), "backslash": (0, 0, 1, 1)}


def data(text):
    return list(text.encode("latin-1"))


def told(answer):
    """The text behind the 0 of an answer."""
    if answer[0] != 0:
        raise ValueError("refused: " + repr(answer))
    return bytes(answer[1:]).decode("latin-1")


def text_of(wide, high, letters):
    """A block's text with every square written by four letters."""
    rows = []
    for y in range(high):
        squares = ["".join(letters[4 * (y * wide + x):][:4]) for x in range(wide)]
        rows.append(" ".join(squares) + "\n")
    return "".join(rows)


def sample_letters(count, alphabet, seed):
    """Letters that look like chance and are the same every time."""
    state = seed * 2654435761 % 4294967296 + 1
    letters = []
    for _ in range(count):
        state = (state * 1664525 + 1013904223) % 4294967296
        letters.append(alphabet[(state >> 16) % len(alphabet)])
    return letters


def sample_tops():
    """(wide, high, letters): all small ones of few letters, and some of every size."""
    for letters in itertools.product("abC", repeat=4):
        yield 1, 1, list(letters)
    for letters in itertools.product("ab", repeat=8):
        yield 2, 1, list(letters)
        yield 1, 2, list(letters)
    for wide in range(1, 7):
        for high in range(1, 7):
            for seed, alphabet in enumerate(("a", "ab", "xYz", "abcdefgZ")):
                yield wide, high, sample_letters(4 * wide * high, alphabet, seed + 10 * wide + high)


def symmetric_tops():
    """Tops that many motions keep, in all the ways there are."""
    texts = ("a\n", "a b\n", "a\nb\n", "a b a c\n", "a b\nb a\n", "a b\nc a\n", "a/b\n", "a\\b\n",
             "abab\n", "abac\n", "abcd\n", "a/b b\\a\na\\b b/a\n", "a b a\nb c b\na b a\n",
             "a b a\nc d c\na b a\n", "a b\nc d\n", "a/b a\\b\n", "b a a\na b a\na a b\n",
             "a b c\nd a e\nf g a\n", "a b c\nb a b\nc b a\n")
    for text in texts:
        yield top_from(text)


def top_from(text):
    """(wide, high, letters) of a block's text."""
    rows = text.split("\n")[:-1]
    letters = []
    for row in rows:
        for square in row.split(" "):
            letters.extend(square_letters(square))
    return len(rows[0].split(" ")), len(rows), letters


def square_letters(square):
    if len(square) == 4:
        return list(square)
    two = (square[0], square[-1])
    kind = "one" if len(square) == 1 else "slash" if square[1] == "/" else "backslash"
    return [two[k] for k in EXPANDED[kind]]


def triangle(x, y, side):
    corners = [(2 * x, 2 * y), (2 * x + 2, 2 * y), (2 * x + 2, 2 * y + 2), (2 * x, 2 * y + 2)]
    return frozenset((corners[side], corners[(side + 1) % 4], (2 * x + 1, 2 * y + 1)))


def triangles(wide, high):
    """All quarters in the order of their numbers."""
    return [triangle(x, y, side) for y in range(high) for x in range(wide) for side in range(4)]


def point_moved(m, wide, high, point):
    x, y = point
    if m >= 4:
        x = 2 * wide - x
    for _ in range(m % 4):
        x, y = 2 * high - y, x
        wide, high = high, wide
    return x, y


def expected_moved(m, wide, high, letters):
    """(wide, high, letters) of the moved top."""
    goes = {}
    for quarter, letter in zip(triangles(wide, high), letters):
        goes[frozenset(point_moved(m, wide, high, point) for point in quarter)] = letter
    if m % 2 == 1:
        wide, high = high, wide
    return wide, high, [goes[quarter] for quarter in triangles(wide, high)]


def expected_print(wide, high, letters):
    rows = []
    for y in range(high):
        squares = []
        for x in range(wide):
            four = "".join(letters[4 * (y * wide + x):][:4])
            tries = [four[0]] + [a + cut + b for cut in "/\\" for a in four for b in four] + [four]
            squares.append(next(square for square in tries if square_letters(square) == list(four)))
        rows.append(" ".join(squares) + "\n")
    return "".join(rows)


def expected_patches(wide, high, letters):
    """The patches as a set of sets of triangles."""
    cloth = dict(zip(triangles(wide, high), letters))
    patches = []
    for quarter in cloth:
        near = [patch for patch in patches
                if any(cloth[other] == cloth[quarter] and len(other & quarter) == 2 for other in patch)]
        patches = [patch for patch in patches if patch not in near]
        patches.append(frozenset([quarter]).union(*near))
    return set(patches)


def numbered_patches(wide, high, letters):
    """The patches in the order of their numbers."""
    places = {quarter: place for place, quarter in enumerate(triangles(wide, high))}
    return sorted(expected_patches(wide, high, letters), key=lambda patch: min(places[quarter] for quarter in patch))


def expected_keeps(wide, high, letters):
    hows = []
    for m in MOTIONS:
        new_wide, new_high, new_letters = expected_moved(m, wide, high, letters)
        pairs = set(zip(letters, new_letters))
        if (new_wide, new_high) != (wide, high):
            hows.append(0)
        elif expected_patches(wide, high, letters) != expected_patches(wide, high, new_letters):
            hows.append(0)
        elif letters == new_letters:
            hows.append(3)
        elif len(pairs) == len(set(letters)) == len(set(new_letters)):
            hows.append(2)
        else:
            hows.append(1)
    return hows


def expected_named(wide, high, letters):
    """The letters named anew, going patch by patch."""
    cloth = dict(zip(triangles(wide, high), letters))
    names = {}
    for patch in numbered_patches(wide, high, letters):
        for quarter in patch:
            names.setdefault(cloth[quarter], (string.ascii_lowercase + string.ascii_uppercase)[len(names)])
    return [names[letter] for letter in letters]


def expected_seen(how, wide, high, letters):
    """The printed texts of all eight motions, each seen how."""
    texts = []
    for m in MOTIONS:
        new_wide, new_high, new_letters = expected_moved(m, wide, high, letters)
        if how == 1:
            new_letters = expected_named(new_wide, new_high, new_letters)
        texts.append(expected_print(new_wide, new_high, new_letters))
    return texts


def relettered(letters, seed):
    """The letters changed about, each for one, small ones and capitals by turns."""
    names = [name for pair in zip(reversed(string.ascii_lowercase), string.ascii_uppercase) for name in pair]
    first = seed % len(names)
    changes = dict(zip(sorted(set(letters)), names[first:] + names[:first]))
    return [changes[letter] for letter in letters]


def orbits(m, wide, high):
    """For each quarter the least number that motion m, again and again, takes to its place."""
    numbers = list(range(4 * wide * high))
    comes_from = expected_moved(m, wide, high, numbers)[2]
    least = list(numbers)
    for quarter in numbers:
        other = comes_from[quarter]
        while other != quarter:
            least[quarter] = min(least[quarter], other)
            other = comes_from[other]
    return least


def recoloured(wide, high, letters, seed):
    """The same piecing with other letters, patch by patch, so that no two patches grow together."""
    patches = sorted(expected_patches(wide, high, letters), key=lambda patch: min(sorted(q) for q in patch))
    wishes = sample_letters(len(patches), "abcd", seed)
    cloth = {}
    for patch, wish in zip(patches, wishes):
        near = {cloth[other] for other in cloth for quarter in patch if len(other & quarter) == 2}
        letter = next(letter for letter in wish + "abcdefghijklmnopqrstuvwxyz" if letter not in near)
        cloth.update((quarter, letter) for quarter in patch)
    return [cloth[quarter] for quarter in triangles(wide, high)]


def pieced_tops():
    """Tops with winding patches whose piecing some motion keeps, but mostly not their letters."""
    sizes = ((1, 1), (2, 2), (3, 3), (4, 4), (5, 5), (6, 6), (4, 3), (3, 5))
    for wide, high in sizes:
        for m in MOTIONS:
            if wide != high and m % 2 == 1:
                continue
            for seed in range(6):
                least = orbits(m, wide, high)
                if seed % 2 == 1:
                    # Whole squares of one letter make the longer ways.
                    least = [4 * min(number // 4 for number in least[q // 4 * 4:][:4]) for q in range(len(least))]
                field = sample_letters(len(least), "ab", 100 * m + 10 * wide + seed)
                yield wide, high, recoloured(wide, high, [field[number] for number in least], seed)


def done_after(first, then):
    """The one motion that does motion first and then motion then."""
    turns = first % 4 if then < 4 else -(first % 4)
    return 4 * ((first // 4 + then // 4) % 2) + (turns + then) % 4


class Pieces:
    """The patches of a top by their numbers: which lie beside one another, and where motions that keep them go."""

    def __init__(self, wide, high, letters):
        self.patches = numbered_patches(wide, high, letters)
        self.numbers = range(len(self.patches))
        self.beside = [(one, other) for one, other in itertools.combinations(self.numbers, 2)
                       if any(len(quarter & near) == 2 for quarter in self.patches[one]
                              for near in self.patches[other])]
        self.motions = [[self.patches.index(self.patch_moved(m, wide, high, patch)) for patch in self.patches]
                        for m, kept in enumerate(expected_keeps(wide, high, letters)) if kept > 0]

    def patch_moved(self, m, wide, high, patch):
        return frozenset(frozenset(point_moved(m, wide, high, point) for point in quarter) for quarter in patch)

    def takes(self, k):
        """Whether there are few enough choices."""
        return k ** len(self.patches) <= MOST_CHOICES

    def is_proper(self, choice):
        return all(choice[one] != choice[other] for one, other in self.beside)

    def choices(self, which, k):
        """All of them, in order."""
        every = itertools.product(range(k), repeat=len(self.patches))
        return [choice for choice in every if which == 0 or self.is_proper(choice)]

    def moved(self, goes, choice):
        cloths = {goes[patch]: choice[patch] for patch in self.numbers}
        return tuple(cloths[patch] for patch in self.numbers)

    def same_as(self, how, k, choice):
        """All choices that are the same as this one, some of them several times."""
        if how == 0:
            return [choice]
        alike = [self.moved(goes, choice) for goes in self.motions]
        if how == 1:
            return alike
        used = sorted(set(choice))
        changes = [dict(zip(used, cloths)) for cloths in itertools.permutations(range(k), len(used))]
        return [tuple(change[cloth] for cloth in other) for other in alike for change in changes]

    def first_by_choice(self, which, how, k):
        """For each choice the first of its class, found by going through all choices in order."""
        firsts = {}
        for choice in self.choices(which, k):
            if choice not in firsts:
                firsts.update((other, choice) for other in self.same_as(how, k, choice))
        return firsts

    def classes(self, which, how, k):
        """The first choice of each class, in order."""
        firsts = self.first_by_choice(which, how, k)
        return [list(choice) for choice in self.choices(which, k) if firsts[choice] == choice]


def choice_tops():
    """Tops of few patches: kept by all eight motions, by a few, by motion 0 alone, by their letters or not."""
    texts = ("a a\na a\n", "a a a\n", "a b\na a\n", "a a b\n", "a b\nc c\n", "a b c\nd e a\n", "a b a\na b c\n",
             "a b b e e d\na b a c e d\na a a c c c\n", "a b/c\nd a\n", "abcb adcb\n",
             "a/b c\na a\n", "a b c\n", "a b a b a\n", "a a a\na b a\na a a\n", "abbb cccb\n", "a b\nc d\ne f\n")
    yield from symmetric_tops()
    for text in texts:
        yield top_from(text)
    yield from [top for top in pieced_tops() if 1 < len(expected_patches(*top)) <= 6][::8]
