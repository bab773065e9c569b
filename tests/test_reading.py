"""The first reading (promise 1), and call 6, tree, which shows it."""

import inspect
import random
import sys
import unittest

from tests.helper import REDO, TREE, UNDO, SlowHouse, all_trees, ask, begin, edit, first_tree, last, move, part, rules
from tests.helper import some_change, some_rules, tree_list, tree_names


def list_of(words, parts, told, text):
    """The list of the text's tree, None if there's none."""
    answer = last(begin(words, parts, rules(*told)), edit(0, 0, text), TREE)
    return None if answer == [-2] else tree_list(answer)


class WhichComesFirst(unittest.TestCase):
    def test_by_the_top_rule(self):
        told = [(0, [0, 0]), (0, [part(1), 0]), (1, [0])]
        self.assertEqual(list_of(1, 2, told, [0, 0]), [64, 0, 0])
        told = [(0, [part(1), 0]), (0, [0, 0]), (1, [0])]
        self.assertEqual(list_of(1, 2, told, [0, 0]), [64, 66, 0, 0])

    def test_the_top_rule_is_ahead_of_where_the_first_sign_ends(self):
        told = [(0, [part(1), 0]), (0, [0, part(1)]), (1, [0, 0]), (1, [0])]
        self.assertEqual(list_of(1, 2, told, [0, 0, 0]), [64, 66, 0, 0, 0])

    def test_the_number_counts_among_all_rules(self):
        told = [(1, [0]), (0, [part(1)]), (1, [0, 0]), (0, [0])]
        self.assertEqual(list_of(1, 2, told, [0]), [65, 64, 0])

    def test_by_where_the_first_sign_ends(self):
        told = [(0, [part(1), part(1)]), (1, [0, 0, 0]), (1, [0, 0]), (1, [0])]
        self.assertEqual(list_of(1, 2, told, [0] * 4), [64, 67, 0, 65, 0, 0, 0])
        self.assertEqual(list_of(1, 2, told, [0] * 5), [64, 66, 0, 0, 65, 0, 0, 0])
        self.assertEqual(list_of(1, 2, told, [0] * 6), [64, 65, 0, 0, 0, 65, 0, 0, 0])

    def test_where_it_ends_is_ahead_of_its_tree(self):
        told = [(0, [part(1), part(1)]), (1, [0, 0]), (1, [0])]
        self.assertEqual(list_of(1, 2, told, [0] * 3), [64, 66, 0, 65, 0, 0])

    def test_by_the_first_signs_tree(self):
        told = [(0, [part(1), 0]), (1, [part(2), 0]), (1, [0, part(2)]), (2, [0])]
        self.assertEqual(list_of(1, 3, told, [0] * 3), [64, 65, 67, 0, 0, 0])
        told = [(0, [part(1), 0]), (1, [0, part(2)]), (1, [part(2), 0]), (2, [0])]
        self.assertEqual(list_of(1, 3, told, [0] * 3), [64, 65, 0, 67, 0, 0])

    def test_deep_in_the_first_signs_tree(self):
        told = [(0, [part(0), part(0)]), (0, [0])]
        self.assertEqual(list_of(1, 1, told, [0] * 4), [64, 65, 0, 64, 65, 0, 64, 65, 0, 65, 0])

    def test_by_a_later_signs_end(self):
        told = [(0, [0, part(1), part(1)]), (1, [0, 0]), (1, [0])]
        self.assertEqual(list_of(1, 2, told, [0] * 4), [64, 0, 66, 0, 65, 0, 0])

    def test_by_a_later_signs_tree(self):
        told = [(0, [part(1), part(2)]), (1, [0]), (2, [0, part(1)]), (2, [part(1), 0])]
        self.assertEqual(list_of(1, 3, told, [0] * 3), [64, 65, 0, 66, 0, 65, 0])
        told = [(0, [0, 0, part(2)]), (1, [0]), (2, [part(1), 0]), (2, [0, part(1)])]
        self.assertEqual(list_of(1, 3, told, [0] * 4), [64, 0, 0, 66, 65, 0, 0])

    def test_the_earliest_end_must_leave_a_reading_of_the_rest(self):
        told = [(0, [part(1), part(2)]), (1, [0]), (1, [0, 0]), (1, [0, 0, 0]), (2, [0, 1]), (2, [1])]
        self.assertEqual(list_of(2, 3, told, [0, 0, 0, 1]), [64, 66, 0, 0, 68, 0, 1])
        self.assertEqual(list_of(2, 3, told, [0, 0, 0, 0, 1]), [64, 67, 0, 0, 0, 68, 0, 1])
        self.assertIsNone(list_of(2, 3, told, [0, 0, 0, 0, 0, 1]))

    def test_rules_of_one_sign_within_one_another(self):
        told = [(0, [part(1)]), (1, [part(2)]), (2, [part(3)]), (3, [0]), (2, [0]), (1, [0]), (0, [0])]
        self.assertEqual(list_of(1, 4, told, [0]), [64, 65, 66, 67, 0])
        self.assertEqual(list_of(1, 4, list(reversed(told)), [0]), [64, 0])

    def test_a_rule_of_one_sign_that_leads_nowhere_is_not_taken(self):
        told = [(0, [part(1)]), (1, [part(2)]), (2, [1]), (0, [part(3)]), (3, [0])]
        self.assertEqual(list_of(2, 4, told, [0]), [67, 68, 0])

    def test_a_part_with_no_rule(self):
        self.assertIsNone(list_of(1, 2, [(0, [part(1)]), (0, [0, part(1)])], [0, 0]))
        self.assertIsNone(list_of(1, 2, [(1, [0])], [0]))
        self.assertIsNone(list_of(1, 1, [], [0]))

    def test_words_are_told_apart(self):
        told = [(0, [0, 63, 5])]
        self.assertEqual(list_of(64, 1, told, [0, 63, 5]), [64, 0, 63, 5])
        for text in ([0, 63, 6], [1, 63, 5], [0, 62, 5], [0, 63], [63, 5], [0, 63, 5, 5], [5, 63, 0]):
            self.assertIsNone(list_of(64, 1, told, text))

    def test_the_part_behind_itself_and_ahead_of_itself(self):
        self.assertEqual(list_of(1, 1, [(0, [part(0), 0]), (0, [0])], [0] * 3), [64, 64, 65, 0, 0, 0])
        self.assertEqual(list_of(1, 1, [(0, [0, part(0)]), (0, [0])], [0] * 3), [64, 0, 64, 0, 65, 0])


class TheLargest(unittest.TestCase):
    def test_eight_signs(self):
        told = [(0, [part(1)] * 8), (1, [0, 0, 0]), (1, [0, 0]), (1, [0])]
        expected = [64] + [67, 0] * 7 + [65, 0, 0, 0]
        self.assertEqual(list_of(1, 2, told, [0] * 10), expected)
        self.assertEqual(list_of(1, 2, told, [0] * 24), [64] + [65, 0, 0, 0] * 8)
        self.assertIsNone(list_of(1, 2, told, [0] * 7))

    def test_the_last_of_64_rules(self):
        told = [(1 + k % 31, [k % 63, 63]) for k in range(63)] + [(0, [part(1), part(31), 62])]
        self.assertEqual(list_of(64, 32, told, [0, 63, 30, 63, 62]), [127, 64, 0, 63, 94, 30, 63, 62])

    def test_the_deepest_tree(self):
        # 31 rules of one sign stand within one another around each stretch.
        told = [(k, [part(k + 1)]) for k in range(31)] + [(31, [0]), (31, [part(0), part(0)])]
        chain = list(range(64, 95))
        leaf = chain + [95, 0]
        expected = (chain + [96] + leaf) * 23 + leaf
        self.assertEqual(list_of(1, 32, told, [0] * 24), expected)

    def test_the_deepest_tree_needs_no_deep_calls(self):
        told = [(k, [part(k + 1)]) for k in range(31)] + [(31, [0]), (31, [part(0), part(0)])]
        usual = sys.getrecursionlimit()
        sys.setrecursionlimit(len(inspect.stack()) + 100)
        try:
            self.assertEqual(len(list_of(1, 32, told, [0] * 24)), 23 * 65 + 33)
        finally:
            sys.setrecursionlimit(usual)

    def test_every_word_another_and_24_of_them(self):
        told = [(0, [part(1), part(0)]), (0, [part(1)])] + [(1, [k]) for k in range(62)]
        expected = [number for k in range(61, 38, -1) for number in (64, 66 + k, k)] + [65, 104, 38]
        self.assertEqual(list_of(62, 2, told, list(range(61, 37, -1))), expected)

    def test_many_calls_with_many_readings(self):
        told = [(p, [0]) for p in range(8)] + [(p, [part(p), part(p)]) for p in range(8)]
        told += [(k % 8, [part((k // 8 ** place) % 8) for place in range(8)]) for k in range(48)]
        self.assertEqual(len(told), 64)
        ahead = [begin(1, 8, rules(*told)), edit(0, 0, [0] * 24)]
        given = ask(*ahead, *[move(0, 1, 1 + k % 23) for k in range(117)], TREE)
        self.assertEqual(len(given), 120)
        # Rule 8 splits any stretch behind its first word.
        self.assertEqual(tree_list(given[-1]), [72, 64, 0] * 23 + [64, 0])


class TheTreeCall(unittest.TestCase):
    GRAMMAR = begin(3, 2, rules((0, [part(1), part(0)]), (0, [part(1)]), (1, [0]), (1, [1])))

    def test_its_three_parts(self):
        answer = last(self.GRAMMAR, edit(0, 0, [0, 1]), TREE)
        self.assertEqual(answer, [4, 0, 1, 2, 3, 64, 66, 0, 65, 67, 1])

    def test_names_are_in_the_order_of_the_list(self):
        given = ask(self.GRAMMAR, edit(0, 0, [1]), TREE, edit(0, 0, [0]), TREE)
        self.assertEqual(given[2], [2, 0, 1, 65, 67, 1])
        self.assertEqual(given[3], [4, 2, 2, 3, 0])
        self.assertEqual(given[4], [4, 2, 3, 0, 1, 64, 66, 0, 65, 67, 1])

    def test_there_is_no_tree(self):
        given = ask(self.GRAMMAR, TREE, edit(0, 0, [2]), TREE, edit(0, 1, [0]), TREE, UNDO, TREE, edit(0, 1, []), TREE)
        self.assertEqual([given[1], given[3], given[7], given[9]], [[-2]] * 4)
        self.assertEqual(given[5], [2, 0, 1, 65, 66, 0])

    def test_asking_changes_nothing(self):
        given = ask(self.GRAMMAR, edit(0, 0, [0]), edit(0, 0, [1]), UNDO, TREE, TREE, REDO, TREE, UNDO, UNDO, UNDO)
        self.assertEqual(given[4], given[5])
        self.assertEqual(given[6:], [[4, 2, 2, 3, 0], [4, 2, 3, 0, 1, 64, 67, 1, 65, 66, 0], [2, 0, 2, 2, 3],
                                     [0, 0, 2, 0, 1], [-2]])


class AgainstEveryTree(unittest.TestCase):
    def test_short_texts_of_many_grammars(self):
        source = random.Random(20)
        with_several = 0
        for grammar in range(300):
            words = source.randint(1, 2)
            parts = source.randint(1, 3)
            told = some_rules(source, words, parts)
            for size in range(1, 6):
                text = [source.randrange(words) for word in range(size)]
                found = all_trees(told, 64, text)
                with_several += len(found) > 1
                first = min(found, default=None)
                # So the slow house, which builds fewer trees, may be compared with below.
                self.assertEqual(first_tree(told, text), first, (told, text))
                self.assertEqual(list_of(words, parts, told, text), first[1] if found else None, (told, text))
        self.assertGreater(with_several, 50)

    def test_whole_lists_of_calls(self):
        source = random.Random(21)
        for turn in range(150):
            words = source.randint(1, 2)
            parts = source.randint(1, 3)
            told = some_rules(source, words, parts) + [(0, [0, 0, 1 % words, 0, 0, 0])]
            slow = SlowHouse(words, told)
            calls = [begin(words, parts, rules(*told))]
            expected = [[0]]
            for count in range(40):
                calls.append(some_change(source, words, min(5, len(slow.text()))))
                expected.append(slow.answer(calls[-1]))
                if len(slow.text()) > 6:
                    calls.append(edit(0, 4, []))
                    expected.append(slow.answer(calls[-1]))
            self.assertEqual(ask(*calls), expected, calls)

    def test_a_tree_is_the_same_whatever_came_before(self):
        source = random.Random(22)
        for turn in range(40):
            told = some_rules(source, 2, 3)
            text = [source.randrange(2) for word in range(5)]
            ways = [[edit(0, 0, text)], [edit(k, 0, [text[k]]) for k in range(5)],
                    [edit(0, 0, [text[4 - k]]) for k in range(5)],
                    [edit(0, 0, text[3:] + text[:3]), move(2, 3, 0)],
                    [edit(0, 0, text), edit(1, 3, [0]), UNDO, move(0, 2, 3), UNDO],
                    [edit(0, 0, [0, 1, 0]), edit(0, 3, text), UNDO, REDO]]
            lists = [tree_list(last(begin(2, 3, rules(*told)), *way, TREE)) for way in ways]
            self.assertEqual(lists, lists[:1] * len(ways))

    def test_came_and_went_make_the_tree(self):
        source = random.Random(23)
        for turn in range(40):
            told = some_rules(source, 2, 2) + [(0, [0, 1]), (0, [1, part(0)]), (0, [part(0), 0])]
            calls = [begin(2, 2, rules(*[rule for k, rule in enumerate(told) if rule not in told[:k]]))]
            for count in range(30):
                calls += [some_change(source, 2, 4), TREE]
            there = []
            for call, given, tree in zip(calls[1::2], *[ask(*calls)[first::2] for first in (1, 2)]):
                if call != TREE and given[0] >= 0:
                    came = given[2:2 + given[1]]
                    went = given[3 + given[1]:]
                    self.assertEqual(len(went), given[2 + given[1]])
                    self.assertTrue(set(went) <= set(there) and not set(came) & set(there))
                    there = sorted((set(there) | set(came)) - set(went))
                    self.assertEqual(given[0], len(there))
                self.assertEqual(sorted(tree_names(tree)) if tree != [-2] else [], there)


if __name__ == "__main__":
    unittest.main()
