"""What holds for all calls: what is handed in stays as it was, nothing is kept, and the kinds of what is answered."""

import importlib
import sys
import unittest

from clothchoices import tops
from clothchoices.tops import class_of, count, form, keeps, moved, number, same
from helper import LARGEST, MANY, THIRTEEN, data


class HandedIn(list):
    """A list that can't be changed, not for a while either."""

    def refuse(self, *rest, **named):
        raise AssertionError("what was handed in was changed")

    __setitem__ = __delitem__ = __iadd__ = __imul__ = refuse
    append = clear = extend = insert = pop = remove = reverse = sort = refuse


class Calls(unittest.TestCase):
    TEXTS = ("abba a/a\nc c\\d\n", "a b\nb a\n", "abcd\n", "", "a", "a\n" * 513)
    ASKED = ((0, 0, 2), (0, 1, 2), (0, 2, 3), (1, 0, 3), (1, 1, 3), (1, 2, 2), (0, 0, 1), (0, 0, 8), (2, 0, 2),
             (0, 3, 2), (0, 0, 0), (0, 0, 9))
    CHOICES = ([0, 1, 0, 1], [1, 0, 0, 1], [2, 1, 0, 1], [1, 1, 1, 1], [0, 1, 2], [], [9] * 4, [LARGEST] * 200)

    def answers(self, text):
        answers = [moved(m, text) for m in (0, 1, 5, 7, 8, LARGEST)] + [keeps(text)]
        for how in (0, 1, 2, LARGEST):
            answers += [form(how, text), same(how, text, text)]
            for other in self.TEXTS:
                answers += [same(how, text, data(other)), same(how, data(other), text)]
        for which, how, k in self.ASKED:
            answers.append(count(which, how, k, text))
            answers += [class_of(which, how, k, i, text) for i in (0, 1, 5, LARGEST)]
            answers += [number(which, how, k, text, list(choice)) for choice in self.CHOICES]
        return answers

    def test_handed_in_is_not_changed(self):
        for text in self.TEXTS:
            numbers = HandedIn(data(text))
            self.answers(numbers)
            self.assertEqual(list(numbers), data(text))
            for other in self.TEXTS:
                others = HandedIn(data(other))
                self.assertEqual(same(1, numbers, others), same(1, data(text), data(other)))
                self.assertEqual((list(numbers), list(others)), (data(text), data(other)))

    def test_a_choice_handed_in_is_not_changed(self):
        for text in self.TEXTS:
            numbers = HandedIn(data(text))
            for which, how, k in self.ASKED:
                for choice in self.CHOICES:
                    cloths = HandedIn(choice)
                    answer = number(which, how, k, numbers, cloths)
                    self.assertEqual((list(numbers), list(cloths)), (data(text), choice))
                    self.assertEqual(answer, number(which, how, k, data(text), list(choice)))
                    self.assertEqual(answer, number(which, how, k, numbers, cloths))

    def test_nothing_is_kept(self):
        first = [self.answers(data(text)) for text in self.TEXTS]
        for answers, text in reversed(list(zip(first, self.TEXTS))):
            self.assertEqual(self.answers(data(text)), answers)

    def test_an_answer_is_a_list_of_its_own(self):
        for text in self.TEXTS:
            numbers = data(text)
            before = self.answers(numbers)
            for answer in self.answers(numbers):
                answer.append(1)
                answer[0] = 99
            self.assertEqual(numbers, data(text))
            self.assertEqual(self.answers(numbers), before)

    def test_kinds(self):
        for text in self.TEXTS:
            for answer in self.answers(data(text)):
                self.assertIs(type(answer), list)
                for entry in answer:
                    self.assertIs(type(entry), int)
                if answer[0] < 0:
                    self.assertEqual(len(answer), 1)
                else:
                    self.assertEqual(answer[0], 0)

    def test_arguments_by_name(self):
        self.assertEqual(moved(m=1, text=data("a b\n")), [0] + data("a\nb\n"))
        self.assertEqual(keeps(text=data("a b\n")), [0, 3, 0, 2, 0, 2, 0, 3, 0])
        self.assertEqual(form(how=1, text=data("b a\n")), [0, 1] + data("a\nb\n"))
        self.assertEqual(same(how=0, text=data("b a\n"), other=data("b\na\n")), [0, 1, 1])
        self.assertEqual(count(which=1, how=0, k=3, text=data("a b\n")), [0, 6])
        self.assertEqual(class_of(which=1, how=0, k=3, i=2, text=data("a b\n")), [0, 1, 0])
        self.assertEqual(number(which=1, how=0, k=3, text=data("a b\n"), choice=[1, 0]), [0, 2])

    def test_arguments_in_their_order(self):
        self.assertEqual(form(0, data("b a\n")), [0, 3] + data("a\nb\n"))
        self.assertEqual(same(0, data("b\na\n"), data("b a\n")), [0, 1, 3])
        self.assertEqual(count(0, 1, 3, data("a b\n")), [0, 6])
        self.assertEqual(count(1, 0, 2, data("a b\n")), [0, 2])
        self.assertEqual(class_of(0, 1, 2, 2, data("a b\n")), [0, 1, 1])
        self.assertEqual(number(0, 1, 2, data("a b\n"), [1, 1]), [0, 2])
        self.assertEqual(number(1, 0, 2, data("a b\n"), [1, 0]), [0, 1])


class OneAfterAnother(unittest.TestCase):
    CALLS = (("moved", 3, "a/b c\na a\n"), ("moved", 8, "a\n"), ("keeps", "a b\nc a\n"), ("keeps", "a b"),
             ("form", 0, "b a\na c\n"), ("form", 1, "b a\na c\n"), ("same", 0, "a b\n", "b\na\n"),
             ("same", 1, "a b a\n", "a b c\n"), ("count", 0, 1, 2, "a b\nc a\n"), ("count", 1, 2, 3, "a b\nc a\n"),
             ("count", 0, 0, 2, THIRTEEN), ("class_of", 0, 2, 3, 2, "a b\nc d\n"), ("class_of", 1, 0, 3, 99, "a b\n"),
             ("class_of", 0, 0, 1, 0, MANY), ("number", 1, 1, 3, "a b a c\n", [2, 0, 1, 0]),
             ("number", 0, 2, 4, "abac\n", [3, 2, 3, 1]), ("number", 1, 0, 2, "a b\n", [1, 1]))

    def arguments(self, call):
        return [data(part) if isinstance(part, str) else part for part in call[1:]]

    def answer(self, call):
        return getattr(tops, call[0])(*self.arguments(call))

    def answer_alone(self, call):
        """What a program answers that was never asked before."""
        loaded = {name: sys.modules.pop(name) for name in list(sys.modules) if name.split(".")[0] == "clothchoices"}
        try:
            return getattr(importlib.import_module("clothchoices.tops"), call[0])(*self.arguments(call))
        finally:
            sys.modules.update(loaded)

    def test_each_answers_as_it_does_alone(self):
        self.assertEqual(len({call[0] for call in self.CALLS}), 7)
        alone = [self.answer_alone(call) for call in self.CALLS]
        self.assertEqual([self.answer(call) for call in self.CALLS], alone)
        self.assertEqual([self.answer(call) for call in reversed(self.CALLS)], alone[::-1])
        for call, wanted in zip(self.CALLS, alone):
            for before, first in zip(self.CALLS, alone):
                self.assertEqual([self.answer(before), self.answer(call)], [first, wanted], (before, call))


if __name__ == "__main__":
    unittest.main()
