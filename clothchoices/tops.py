"""The calls on tops: a top moved, how each motion keeps it, its least form, whether two are alike, and the classes
of the cloths that may be chosen for it."""

from clothchoices.choices import ALL_CHOICES, MOST_CHOICES, MOST_CLOTHS, PROPER_CHOICES, Piecing
from clothchoices.choices import SAME_IF_MOVED, SAME_IF_MOVED_AND_CHANGED, SAME_IF_ONE
from clothchoices.choices import first_of_its_class, firsts_of_classes, how_many_choices, is_choice

MOST_BYTES = 1024
MOST_SQUARES = 6
MOTIONS = 8

ROW_END = 10
BLANK = 32
SLASH = 47
BACKSLASH = 92

OUT_OF_RANGE = -1
TOO_LONG = -2
NONE_SUCH = -4
AT_FAULT = -6
TOO_MANY = -8

KEPT_NOT = 0
KEPT_PIECING = 1
KEPT_LETTERS_CHANGED = 2
KEPT_ALL = 3

SEEN_AS_IT_IS = 0
SEEN_NAMED_ANEW = 1

NO_PATCH = -1

NEW_NAMES = "abcdefghijklmnopqrstuvwxyzABCDEFGHIJKLMNOPQRSTUVWXYZ"


# letters stand by the quarters' numbers, so tops of one size are compared list by list.
class Top:
    def __init__(self, wide, high, letters):
        self.wide = wide
        self.high = high
        self.letters = letters


# Parts may be empty, one more than there are marks: so a mark too many is seen as an empty part.
def split_at(mark, text):
    parts = []
    part = []
    for byte in text:
        if byte == mark:
            parts.append(part)
            part = []
        else:
            part.append(byte)
    parts.append(part)
    return parts


def is_letter(byte):
    return 65 <= byte <= 90 or 97 <= byte <= 122


# Upper, right, lower, left; None if the part writes no square.
def square_quarters(part):
    if len(part) == 1:
        quarters = [part[0], part[0], part[0], part[0]]
    elif len(part) == 3 and part[1] == SLASH:
        quarters = [part[0], part[2], part[2], part[0]]
    elif len(part) == 3 and part[1] == BACKSLASH:
        quarters = [part[0], part[0], part[2], part[2]]
    elif len(part) == 4:
        quarters = list(part)
    else:
        return None
    if all([is_letter(byte) for byte in quarters]):
        return quarters
    return None


# None if the row is at fault.
def row_quarters(row):
    letters = []
    for part in split_at(BLANK, row):
        quarters = square_quarters(part)
        if quarters is None:
            return None
        letters.extend(quarters)
    return letters


# None if the text is at fault.
def top_of(text):
    rows = split_at(ROW_END, text)
    # Every row has its end behind it, so nothing may be left behind the last one.
    if len(rows.pop()) > 0:
        return None
    high = len(rows)
    if high < 1 or high > MOST_SQUARES:
        return None
    wide = len(split_at(BLANK, rows[0]))
    if wide > MOST_SQUARES:
        return None
    letters = []
    for row in rows:
        quarters = row_quarters(row)
        if quarters is None or len(quarters) != 4 * wide:
            return None
        letters.extend(quarters)
    return Top(wide, high, letters)


# All calls refuse their texts alike, ahead of whatever else they refuse; 0 if all are taken.
# A length refused in any text counts before a fault in another.
def refusal_of(texts):
    if any([len(text) > MOST_BYTES for text in texts]):
        return TOO_LONG
    if any([top_of(text) is None for text in texts]):
        return AT_FAULT
    return 0


def printed_square(upper, right, lower, left):
    if upper == right and right == lower and lower == left:
        return [upper]
    if upper == left and right == lower:
        return [upper, SLASH, right]
    if upper == right and lower == left:
        return [upper, BACKSLASH, lower]
    return [upper, right, lower, left]


def printed(top):
    text = []
    for square in range(top.wide * top.high):
        first = 4 * square
        letters = top.letters[first:first + 4]
        text.extend(printed_square(letters[0], letters[1], letters[2], letters[3]))
        if square % top.wide == top.wide - 1:
            text.append(ROW_END)
        else:
            text.append(BLANK)
    return text


def mirrored(top):
    old = top.letters
    letters = []
    for y in range(top.high):
        for x in range(top.wide):
            first = 4 * (y * top.wide + top.wide - 1 - x)
            letters.extend([old[first], old[first + 3], old[first + 2], old[first + 1]])
    return Top(top.wide, top.high, letters)


# Clockwise, by one quarter.
def turned(top):
    old = top.letters
    letters = []
    # Square (x, y) of the turned top was square (y, high - 1 - x) of the old one.
    for y in range(top.wide):
        for x in range(top.high):
            first = 4 * ((top.high - 1 - x) * top.wide + y)
            letters.extend([old[first + 3], old[first], old[first + 1], old[first + 2]])
    return Top(top.high, top.wide, letters)


def top_moved(m, top):
    result = mirrored(top) if m >= 4 else top
    for turn in range(m % 4):
        result = turned(result)
    return result


def quarters_beside(top, quarter):
    square = quarter // 4
    side = quarter % 4
    x = square % top.wide
    y = square // top.wide
    beside = [4 * square + (side + 1) % 4, 4 * square + (side + 3) % 4]
    if side == 0 and y > 0:
        beside.append(4 * (square - top.wide) + 2)
    if side == 1 and x < top.wide - 1:
        beside.append(4 * (square + 1) + 3)
    if side == 2 and y < top.high - 1:
        beside.append(4 * (square + top.wide))
    if side == 3 and x > 0:
        beside.append(4 * (square - 1) + 1)
    return beside


def patch_from(top, start):
    reached = {start: True}
    waiting = [start]
    while len(waiting) > 0:
        quarter = waiting.pop()
        for other in quarters_beside(top, quarter):
            if other not in reached and top.letters[other] == top.letters[start]:
                reached[other] = True
                waiting.append(other)
    return list(reached)


# Numbered as they come first, so that tops of one piecing have the same list.
def patches_of(top):
    patches = [NO_PATCH for letter in top.letters]
    found = 0
    for start in range(len(top.letters)):
        if patches[start] == NO_PATCH:
            for quarter in patch_from(top, start):
                patches[quarter] = found
            found += 1
    return patches


# Both ways are asked: a letter may not become two, nor two become one.
def changed_each_for_one(letters, others):
    became = {}
    came_from = {}
    for letter, other in zip(letters, others):
        if became.setdefault(letter, other) != other:
            return False
        if came_from.setdefault(other, letter) != letter:
            return False
    return True


# after is the top once it is moved.
def how_kept(top, after):
    if top.wide != after.wide or top.high != after.high:
        return KEPT_NOT
    if patches_of(top) != patches_of(after):
        return KEPT_NOT
    if top.letters == after.letters:
        return KEPT_ALL
    if changed_each_for_one(top.letters, after.letters):
        return KEPT_LETTERS_CHANGED
    return KEPT_PIECING


# Pairs of patches, the lesser number first, each pair once.
def patches_beside(top):
    patches = patches_of(top)
    pairs = {}
    for quarter, patch in enumerate(patches):
        for other in quarters_beside(top, quarter):
            if patch < patches[other]:
                pairs[(patch, patches[other])] = True
    return list(pairs)


# For a motion that keeps the piecing: the numbers themselves are moved, as if they were letters, and where a
# patch's old number comes to lie its new one stands, as the numbers of all quarters are kept.
def where_patches_go(m, top):
    patches = patches_of(top)
    old = top_moved(m, Top(top.wide, top.high, patches)).letters
    goes = dict(zip(old, patches))
    return [goes[patch] for patch in range(len(goes))]


def piecing_of(top):
    kept = [m for m in range(MOTIONS) if how_kept(top, top_moved(m, top)) != KEPT_NOT]
    motions = [where_patches_go(m, top) for m in kept]
    return Piecing(len(motions[0]), patches_beside(top), motions)


# Quarter by quarter is patch by patch here: the first quarter of a letter is the first of its patch too.
def named_anew(top):
    names = {}
    for letter in top.letters:
        if letter not in names:
            names[letter] = ord(NEW_NAMES[len(names)])
    return Top(top.wide, top.high, [names[letter] for letter in top.letters])


def printed_as_seen(how, top):
    if how == SEEN_NAMED_ANEW:
        return printed(named_anew(top))
    return printed(top)


# Moved first and seen then: what is named anew and then moved would not be named as it comes.
def motions_as_seen(how, top):
    return [printed_as_seen(how, top_moved(m, top)) for m in range(MOTIONS)]


# The calls on choices refuse alike what they are all asked; 0 if it is taken.
def refusal_of_choices(which, how, k, text):
    refusal = refusal_of([text])
    if refusal < 0:
        return refusal
    if which not in (ALL_CHOICES, PROPER_CHOICES) or k < 1 or k > MOST_CLOTHS:
        return OUT_OF_RANGE
    if how not in (SAME_IF_ONE, SAME_IF_MOVED, SAME_IF_MOVED_AND_CHANGED):
        return OUT_OF_RANGE
    if how_many_choices(k, max(patches_of(top_of(text))) + 1) > MOST_CHOICES:
        return TOO_MANY
    return 0


def moved(m, text):
    refusal = refusal_of([text])
    if refusal < 0:
        return [refusal]
    if m >= MOTIONS:
        return [OUT_OF_RANGE]
    return [0] + printed(top_moved(m, top_of(text)))


def keeps(text):
    refusal = refusal_of([text])
    if refusal < 0:
        return [refusal]
    top = top_of(text)
    return [0] + [how_kept(top, top_moved(m, top)) for m in range(MOTIONS)]


def form(how, text):
    refusal = refusal_of([text])
    if refusal < 0:
        return [refusal]
    if how not in (SEEN_AS_IT_IS, SEEN_NAMED_ANEW):
        return [OUT_OF_RANGE]
    motions = motions_as_seen(how, top_of(text))
    least = min(motions)
    return [0, motions.index(least)] + least


# Printed texts are compared, not letters: two tops may have all letters in one order and yet not be as wide.
def same(how, text, other):
    refusal = refusal_of([text, other])
    if refusal < 0:
        return [refusal]
    if how not in (SEEN_AS_IT_IS, SEEN_NAMED_ANEW):
        return [OUT_OF_RANGE]
    motions = motions_as_seen(how, top_of(text))
    wanted = printed_as_seen(how, top_of(other))
    if wanted in motions:
        return [0, 1, motions.index(wanted)]
    return [0, 0, 0]


def count(which, how, k, text):
    refusal = refusal_of_choices(which, how, k, text)
    if refusal < 0:
        return [refusal]
    return [0, len(firsts_of_classes(which, how, k, piecing_of(top_of(text))))]


def class_of(which, how, k, i, text):
    refusal = refusal_of_choices(which, how, k, text)
    if refusal < 0:
        return [refusal]
    firsts = firsts_of_classes(which, how, k, piecing_of(top_of(text)))
    if i >= len(firsts):
        return [NONE_SUCH]
    return [0] + firsts[i]


def number(which, how, k, text, choice):
    refusal = refusal_of_choices(which, how, k, text)
    if refusal < 0:
        return [refusal]
    piecing = piecing_of(top_of(text))
    if not is_choice(which, k, piecing, choice):
        return [NONE_SUCH]
    firsts = firsts_of_classes(which, how, k, piecing)
    return [0, firsts.index(first_of_its_class(how, piecing, choice))]
