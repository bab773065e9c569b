"""Promises 1, 2 and 4 over long rows of calls of all kinds, and the whole at its largest."""

import random
import sys
import unittest

from regrown.house import answers
from tests.helper import HIGHEST, MARKS, REDO, TREE, UNDO, WORDS, SlowHouse, ask, at, begin, edit, first_tree, mark
from tests.helper import move, node, part, places, rules, some_call, some_change, some_grammar, tree_list, tree_names

REFUSED_BEGINS = ((begin(0, 1, []), -1), (begin(1, 33, []), -1), (begin(3, 3, [0]), -3), (begin(3, 3, [64, 1, 0]), -3),
                  (begin(3, 3, rules((2, [part(1)]), (1, [part(2)]))), -4))


def shorter(source, size):
    """A call that brings a text of this size down to a few words."""
    return edit(source.randint(0, 2), size - 4, [])


class Seen:
    """A text and its tree, from the answers to words and tree alone."""

    def __init__(self, told, words, tree):
        self.told = told
        self.text = list(zip(words[1::2], words[2::2], strict=True))
        self.listed = [] if tree == [-2] else tree_list(tree)
        self.names = [] if tree == [-2] else tree_names(tree)
        if len(self.text) != words[0]:
            raise ValueError(f"not an answer to words: {words}")

    def rules(self):
        """The name of each rule in the tree, by its number and the names of its words."""
        found = {}
        for name, (rule, first, size, around) in zip(self.names, places(self.told, self.listed), strict=True):
            found[rule, tuple(word for word, which in self.text[first:first + size])] = name
        return found


class LongRows(unittest.TestCase):
    def rows(self, seed, turns):
        """Grammars, each with a row of changes, and what is seen behind each of these."""
        source = random.Random(seed)
        for turn in range(turns):
            words, parts, told = some_grammar(source)
            slow = SlowHouse(words, told)
            changes = []
            for count in range(39):
                change = some_change(source, words, len(slow.text()))
                changes.append(change if len(slow.text()) < 10 else shorter(source, len(slow.text())))
                slow.answer(changes[-1])
            calls = [call for change in changes for call in (change, WORDS, TREE)]
            given = ask(begin(words, parts, rules(*told)), WORDS, TREE, *calls)
            seen = [Seen(told, given[k], given[k + 1]) for k in range(1, len(given), 3)]
            yield told, list(zip(changes, given[3::3], seen[:-1], seen[1:], strict=True))

    def test_the_tree_is_the_first_reading_of_the_text_as_it_stands(self):
        read = 0
        for told, row in self.rows(40, 60):
            for change, answer, before, seen in row:
                first = first_tree(told, [which for name, which in seen.text])
                self.assertEqual(seen.listed, first[1] if first else [])
                read += len(seen.text) > 4 and first is not None
        self.assertGreater(read, 500)

    def test_what_came_and_what_was_there_and_did_not_go_is_the_tree(self):
        kept = 0
        for told, row in self.rows(41, 60):
            for change, answer, before, seen in row:
                if change == TREE or answer[0] < 0:
                    self.assertEqual([seen.text, seen.names], [before.text, before.names])
                    continue
                came = answer[2:2 + answer[1]]
                went = answer[3 + answer[1]:]
                self.assertEqual(answer[0], len(seen.names))
                self.assertEqual(answer[2 + answer[1]], len(went))
                self.assertEqual([came, went], [sorted(set(came)), sorted(set(went))])
                self.assertEqual(came, sorted(set(seen.names) - set(before.names)))
                self.assertEqual(went, sorted(set(before.names) - set(seen.names)))
                self.assertEqual(sorted(seen.names), sorted(came + [name for name in before.names if name not in went]))
                kept += 0 < len(came) < len(seen.names)
        self.assertGreater(kept, 200)

    def test_names_behind_an_edit(self):
        kept = 0
        for told, row in self.rows(42, 60):
            known_words = 0
            ever = set()
            for change, answer, before, seen in row:
                if change[0] == 2 and answer[0] >= 0:
                    i, n, count = change[1:4]
                    new = [(known_words + k, word) for k, word in enumerate(change[4:])]
                    known_words += count
                    self.assertEqual(seen.text, before.text[:i] + new + before.text[i + n:])
                    kept += self.names_behind_an_edit(before, seen, i, n, {name for name, word in new}, ever)
                ever |= set(seen.names)
        self.assertGreater(kept, 500)

    def names_behind_an_edit(self, before, seen, i, n, new, ever):
        """How many rules are in both trees, over words ahead of the edit or behind it."""
        ahead = {name for name, which in before.text[:i]}
        behind = {name for name, which in before.text[i + n:]}
        old = before.rules()
        kept = 0
        for (rule, words), name in seen.rules().items():
            if set(words) & new:
                self.assertNotIn(name, ever)
            elif (rule, words) in old:
                self.assertEqual(name, old[rule, words])
                kept += set(words) <= ahead or set(words) <= behind
        return kept

    def test_a_name_means_one_thing_for_ever(self):
        for told, row in self.rows(43, 60):
            meant = {}
            for change, answer, before, seen in row:
                fresh = [name for name in seen.names if name not in meant]
                self.assertEqual(fresh, list(range(len(meant), len(meant) + len(fresh))))
                for over, name in seen.rules().items():
                    self.assertEqual(meant.setdefault(name, over), over)
            self.assertEqual(len(set(meant.values())), len(meant))


class AllKinds(unittest.TestCase):
    def compare(self, seed, turns, longest):
        """Rows of 120 calls of all kinds against the slow house; how often each kind was answered, and how."""
        source = random.Random(seed)
        told_of = {}
        for turn in range(turns):
            slow = SlowHouse()
            calls = []
            expected = []
            while len(calls) < 120:
                call, answer = self.next_call(source, slow, longest, len(calls) % 60 == 1)
                calls.append(call)
                expected.append(answer)
                kind = (call[0], min(answer[0], 0))
                told_of[kind] = told_of.get(kind, 0) + 1
            self.assertEqual(ask(*calls), expected, calls)
        return told_of

    def next_call(self, source, slow, longest, anew):
        if anew:
            words, parts, told = some_grammar(source)
            call = begin(words, parts, rules(*told))
        elif source.randrange(40) == 0:
            call, refusal = source.choice(REFUSED_BEGINS)
            return call, [refusal]
        elif len(slow.text()) > longest:
            call = shorter(source, len(slow.text()))
        else:
            call = some_call(source, slow)
        return call, slow.answer(call)

    def test_against_the_slow_house(self):
        told_of = self.compare(50, 60, 9)
        refusals = {1: (-1, -3, -4), 2: (-1,), 3: (-1,), 4: (-2,), 5: (-2,), 6: (-2,), 8: (-2, -3), 9: (-1, -2),
                    10: (-1, -2, -3)}
        for call in range(1, 12):
            for answer in (0,) + refusals.get(call, ()):
                self.assertGreater(told_of.get((call, answer), 0), 10, (call, answer))

    def test_longer_texts(self):
        self.compare(51, 6, 20)


class TheLargest(unittest.TestCase):
    # 64 words, 32 parts, 64 rules: 31 of one sign around each stretch, and 21 of eight signs that are tried ahead.
    TOLD = [(31, [part(0)] * 7 + [63 - k]) for k in range(21)] + [(k, [part(k + 1)]) for k in range(31)]
    TOLD += [(31, [part(0), part(0)])] + [(31, [word]) for word in (0, 1, 2, 3, 4, 5, 60, 61, 62, 63)] + [(0, [0] * 8)]
    GRAMMAR = begin(64, 32, rules(*TOLD))

    def calls(self):
        """120 calls of all kinds; the text has 24 words almost always, and there are 64 marks in the end."""
        wrong = [edit(0, 0, [HIGHEST] * 1024), edit(0, 24, [0] * 1024), begin(64, 32, [0, 8] * 512),
                 begin(HIGHEST, HIGHEST, [HIGHEST] * 1024), begin(64, 32, [31, 8] + [95] * 8 + [0] * 1014)]
        calls = [self.GRAMMAR, edit(0, 0, [0] * 22 + [63, 0]), TREE, WORDS]
        calls += [mark(20 * k, 10 ** 18 - k) for k in range(60)] + [MARKS] + wrong
        calls += [move(1, 2, 3), TREE, MARKS, move(0, 1, 20), move(22, 1, 4), TREE, WORDS, MARKS, UNDO, UNDO, UNDO]
        calls += [MARKS, REDO, REDO, REDO, MARKS, UNDO, UNDO, UNDO, edit(0, 24, [1] * 24), MARKS, UNDO]
        calls += [mark(0, HIGHEST), mark(1, HIGHEST)] + [mark(name, 10 ** 18) for name in (1, 3, 5, 7, 9, 0)]
        calls += [mark(HIGHEST, 1), node(HIGHEST), node(0), node(1100), at(0, 24), at(23, 24), at(0, 25), MARKS]
        calls += [move(HIGHEST, HIGHEST, HIGHEST), at(HIGHEST, HIGHEST), edit(HIGHEST, HIGHEST, [])]
        calls += [edit(8, 16, [2] * 16), edit(0, 8, []), edit(0, 0, [63] * 8), MARKS, TREE, UNDO, UNDO, UNDO, MARKS]
        return calls

    def test_120_calls_of_all_kinds(self):
        calls = self.calls()
        self.assertEqual([len(self.TOLD), len(calls)], [64, 120])
        flat = [number for call in calls for number in call]
        self.assertLessEqual(len(flat), 16000)
        self.assertEqual(sorted({call[0] for call in calls}), list(range(1, 12)))
        given = ask(*calls)
        usual = sys.getrecursionlimit()
        # The slow house goes as deep as the trees do.
        sys.setrecursionlimit(20000)
        try:
            slow = SlowHouse()
            for call, answer in zip(calls, given, strict=True):
                if call[0] == 1 and call != self.GRAMMAR:
                    self.assertIn(answer, ([-1], [-3]))
                else:
                    self.assertEqual(answer, slow.answer(call), call)
        finally:
            sys.setrecursionlimit(usual)
        self.assertIn([-5], given)
        self.assertEqual(given[-1][:2], [64, 0])

    def test_unchanged_and_the_same_twice(self):
        flat = [number for call in self.calls() for number in call]
        kept = list(flat)
        first = answers(flat)
        self.assertEqual(flat, kept)
        copy = list(first)
        first.reverse()
        self.assertEqual(answers(flat), copy)
        self.assertEqual(flat, kept)
        self.assertEqual({number.__class__ for number in copy}, {int})

    def test_16000_numbers(self):
        calls = [self.GRAMMAR, edit(0, 0, [0] * 24)] + [edit(0, 0, [63] * 1024)] * 14
        flat = [number for call in calls for number in call]
        rest = 16000 - len(flat) - len(TREE) - 4
        flat += edit(24, 0, [64] * rest) + TREE
        self.assertEqual(len(flat), 16000)
        given = answers(flat)
        self.assertEqual(given[:2], [1, 0])
        tree = ask(self.GRAMMAR, edit(0, 0, [0] * 24), TREE)[2]
        self.assertEqual(given[-len(tree) - 1 - 2 * 15:], [1, -5] * 14 + [1, -1] + [len(tree)] + tree)


if __name__ == "__main__":
    unittest.main()
