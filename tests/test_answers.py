"""regrown.house.answers: the form of calls and of what is given back."""

import pathlib
import re
import unittest

from regrown.house import answers
from tests.helper import HIGHEST, MARKS, REDO, TREE, UNDO, WORDS, at, begin, edit, mark, move, node, part, rules

GRAMMAR = begin(2, 2, rules((0, [part(1), part(1)]), (1, [0]), (1, [1])))


class Watched(list):
    """A list that may not be changed."""

    def refuse(self, *args, **kwargs):
        raise AssertionError("what was handed in is changed")

    append = extend = insert = pop = remove = reverse = sort = clear = refuse
    __setitem__ = __delitem__ = __iadd__ = __imul__ = refuse


class WhatIsGivenBack(unittest.TestCase):
    def test_one_call(self):
        self.assertEqual(answers(TREE), [1, -2])
        self.assertEqual(answers(GRAMMAR), [1, 0])

    def test_each_call_behind_another(self):
        calls = GRAMMAR + edit(0, 0, [0, 1]) + TREE + move(0, 1, 1) + UNDO + REDO + UNDO + TREE
        self.assertEqual(answers(calls), [
            1, 0,
            6, 3, 3, 0, 1, 2, 0,
            9, 3, 0, 1, 2, 64, 65, 0, 66, 1,
            5, 3, 1, 3, 1, 0,
            5, 3, 1, 0, 1, 3,
            5, 3, 1, 3, 1, 0,
            5, 3, 1, 0, 1, 3,
            9, 3, 0, 1, 2, 64, 65, 0, 66, 1])

    def test_each_call_that_asks_or_marks(self):
        calls = MARKS + WORDS + GRAMMAR + edit(0, 0, [0, 1]) + WORDS + node(2) + at(0, 2) + mark(2, 9) + mark(1, 8)
        calls += MARKS + edit(0, 1, []) + MARKS + mark(2, 0) + WORDS
        self.assertEqual(answers(calls), [
            2, 0, 0,
            1, 0,
            1, 0,
            6, 3, 3, 0, 1, 2, 0,
            5, 2, 0, 0, 1, 1,
            4, 2, 1, 1, 1,
            1, 0,
            1, 1,
            1, 2,
            10, 2, 0, 1, 8, 0, 1, 2, 9, 1, 1,
            6, 0, 0, 3, 0, 1, 2,
            2, 0, 2,
            1, -3,
            3, 1, 1, 1])

    def test_a_refusal_is_one_number(self):
        calls = begin(0, 1, []) + begin(1, 1, [1]) + begin(1, 1, rules((0, [part(0)]))) + edit(0, 1, [])
        calls += edit(0, 0, [0] * 25) + move(0, 0, 0) + UNDO + REDO + TREE
        self.assertEqual(answers(calls), [1, -1, 1, -3, 1, -4, 1, -1, 1, -5, 1, -1, 1, -2, 1, -2, 1, -2])
        calls = node(0) + at(0, 0) + edit(0, 0, [0]) + at(0, 1) + mark(0, HIGHEST) + mark(0, 0)
        self.assertEqual(answers(calls), [1, -2, 1, -1, 3, 0, 0, 0, 1, -2, 1, -1, 1, -2])

    def test_empty_lists_and_long_ones_within_calls(self):
        calls = begin(1, 1, []) + edit(0, 0, []) + edit(0, 0, [HIGHEST] * 1024) + begin(1, 1, [4] * 1024) + UNDO
        self.assertEqual(answers(calls), [1, 0, 3, 0, 0, 0, 1, -1, 1, -3, 3, 0, 0, 0])

    def test_numbers_that_look_like_calls(self):
        calls = begin(7, 1, rules((0, [1, 2, 3, 4, 5, 6]))) + edit(0, 0, [1, 2, 3, 4, 5, 6]) + move(4, 1, 5) + UNDO
        self.assertEqual(answers(calls), [1, 0, 4, 1, 1, 0, 0, 4, 0, 0, 1, 0, 4, 1, 1, 0, 0])
        calls = node(11) + at(9, 10) + mark(8, 7) + at(11, 11) + mark(10, 10) + MARKS + edit(0, 0, [10, 8, 9, 11, 7])
        self.assertEqual(answers(calls), [1, -2, 1, -1, 1, -2, 1, -1, 1, -2, 2, 0, 0, 1, -1])

    def test_plain_whole_numbers_in_a_plain_list(self):
        given = answers(GRAMMAR + edit(0, 0, [0, 1]) + TREE + edit(0, 0, [1]) + UNDO + TREE + REDO + TREE)
        self.assertIs(type(given), list)
        self.assertEqual({type(number) for number in given}, {int})

    def test_120_calls_and_many_numbers(self):
        calls = GRAMMAR + (edit(0, 0, [HIGHEST] * 130)) * 118 + TREE
        self.assertLess(len(calls), 16000)
        self.assertEqual(answers(calls), [1, 0] + [1, -1] * 118 + [1, -2])


class NothingIsKept(unittest.TestCase):
    CALLS = GRAMMAR + edit(0, 0, [0, 1]) + TREE + edit(1, 1, [0]) + UNDO + TREE + move(0, 1, 1) + UNDO + REDO + TREE
    CALLS += WORDS + mark(1, 5) + MARKS + node(1) + at(0, 1) + mark(2, 6) + edit(0, 1, []) + MARKS + UNDO + MARKS

    def test_what_was_handed_in_is_unchanged(self):
        calls = list(self.CALLS)
        answers(calls)
        self.assertEqual(calls, self.CALLS)

    def test_not_for_a_while_either(self):
        self.assertEqual(answers(Watched(self.CALLS)), answers(list(self.CALLS)))

    def test_what_was_given_back_is_not_held_on_to(self):
        first = answers(self.CALLS)
        kept = list(first)
        first.clear()
        self.assertEqual(answers(self.CALLS), kept)

    def test_called_twice(self):
        self.assertEqual(answers(self.CALLS), answers(self.CALLS))

    def test_each_list_is_about_a_new_house(self):
        answers(self.CALLS)
        self.assertEqual(answers(TREE + UNDO + REDO + edit(0, 0, [1])), [1, -2, 1, -2, 1, -2, 1, -1])
        self.assertEqual(answers(WORDS + node(0) + mark(0, 1) + MARKS), [1, 0, 1, -2, 1, -2, 2, 0, 0])
        answers(edit(0, 0, [0]))
        self.assertEqual(answers(move(0, 1, 0)), [1, -1])


class Readme(unittest.TestCase):
    def test_its_example(self):
        text = (pathlib.Path(__file__).resolve().parent.parent / "README.md").read_text()
        code, shown = re.search(r"```python\n(.*?)\n# (\[.*?\])\n```", text, re.DOTALL).groups()
        names = {}
        exec(code, names)
        self.assertEqual(names["given"], [int(number) for number in re.findall(r"-?\d+", shown)])


if __name__ == "__main__":
    unittest.main()
