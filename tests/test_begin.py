"""Call 1, begin: grammars that are in order, and each refusal at its edges."""

import unittest

from tests.helper import HIGHEST, REDO, TREE, UNDO, ask, begin, edit, last, move, part, rules


def distinct_rules(count):
    """As many different rules of part 0, over 8 words; 65 at the most."""
    return [(0, [k // 8, k % 8]) for k in range(count - 1)] + [(0, [0, 0, 0])][:count]


def answer_of(words, parts, numbers):
    return last(begin(words, parts, numbers))


class Counts(unittest.TestCase):
    def test_words(self):
        for words, answer in ((0, -1), (1, 0), (2, 0), (64, 0), (65, -1), (HIGHEST, -1)):
            self.assertEqual(answer_of(words, 1, []), [answer], words)

    def test_parts(self):
        for parts, answer in ((0, -1), (1, 0), (2, 0), (32, 0), (33, -1), (HIGHEST, -1)):
            self.assertEqual(answer_of(1, parts, []), [answer], parts)

    def test_rules(self):
        for count, answer in ((0, 0), (1, 0), (63, 0), (64, 0), (65, -3)):
            told = distinct_rules(count)
            self.assertEqual(len(told), count)
            self.assertEqual(answer_of(8, 1, rules(*told)), [answer], count)

    def test_signs(self):
        for count, answer in ((0, -3), (1, 0), (2, 0), (8, 0), (9, -3)):
            self.assertEqual(answer_of(1, 1, rules((0, [0] * count))), [answer], count)
        self.assertEqual(answer_of(1, 1, [0, HIGHEST, 0]), [-3])

    def test_the_longest_list(self):
        self.assertEqual(answer_of(1, 1, [0] * 1024), [-3])
        self.assertEqual(answer_of(1, 1, [0, 8] * 512), [-3])
        self.assertEqual(answer_of(1, 1, [HIGHEST] * 1024), [-3])


class Forms(unittest.TestCase):
    def test_a_list_that_ends_within_a_rule(self):
        whole = rules((0, [0, 1]), (1, [1, 0, part(1)]))
        for size in range(len(whole) + 1):
            answer = 0 if size in (0, 4, 9) else -3
            self.assertEqual(answer_of(2, 2, whole[:size]), [answer], size)

    def test_two_rules_the_same(self):
        self.assertEqual(answer_of(2, 2, rules((0, [0, 1]), (1, [0]), (0, [0, 1]))), [-3])
        self.assertEqual(answer_of(2, 2, rules((0, [0]), (0, [0]))), [-3])
        self.assertEqual(answer_of(2, 2, rules((0, [0, 1]), (0, [1, 0]), (1, [0, 1]), (0, [0, 1, 1]))), [0])

    def test_a_part_that_the_grammar_has_not(self):
        self.assertEqual(answer_of(1, 2, rules((1, [0]))), [0])
        self.assertEqual(answer_of(1, 2, rules((2, [0]))), [-3])
        self.assertEqual(answer_of(1, 32, rules((31, [0]))), [0])
        self.assertEqual(answer_of(1, 32, rules((32, [0]))), [-3])
        self.assertEqual(answer_of(1, 1, [HIGHEST, 1, 0]), [-3])

    def test_a_rules_own_part_is_told_by_its_number(self):
        self.assertEqual(answer_of(3, 2, [1, 4, 0, 65, 64, 1]), [0])
        for parts in (1, 2, 31, 32):
            for number in (0, 1, 30, 31, 32, 63, 64, 65, 64 + parts - 1, 64 + parts, HIGHEST):
                answer = 0 if number < parts else -3
                self.assertEqual(answer_of(64, parts, [number, 1, 0]), [answer], (parts, number))
                self.assertEqual(answer_of(64, parts, [0, 1, 0, number, 2, 0, 64]), [answer], (parts, number))

    def test_among_the_signs_a_part_is_64_and_its_number(self):
        given = ask(begin(2, 2, [0, 2, 0, 1, 0, 2, 65, 1, 1, 2, 1, 1]), edit(0, 0, [0, 1]), TREE,
                    edit(0, 1, [1, 1]), TREE)
        self.assertEqual(given[1:3], [[1, 1, 0, 0], [1, 0, 64, 0, 1]])
        self.assertEqual(given[3:], [[2, 2, 1, 2, 1, 0], [2, 1, 2, 65, 66, 1, 1, 1]])

    def test_a_word_that_the_grammar_has_not(self):
        self.assertEqual(answer_of(3, 1, rules((0, [0, 2]))), [0])
        self.assertEqual(answer_of(3, 1, rules((0, [0, 3]))), [-3])
        self.assertEqual(answer_of(63, 1, rules((0, [63]))), [-3])
        self.assertEqual(answer_of(64, 1, rules((0, [63]))), [0])

    def test_a_sign_that_the_grammar_has_not(self):
        self.assertEqual(answer_of(1, 3, rules((0, [0, part(2)]))), [0])
        self.assertEqual(answer_of(1, 3, rules((0, [0, part(3)]))), [-3])
        self.assertEqual(answer_of(64, 32, rules((0, [0, part(31)]))), [0])
        self.assertEqual(answer_of(64, 32, rules((0, [0, part(32)]))), [-3])
        self.assertEqual(answer_of(64, 32, rules((0, [HIGHEST]))), [-3])
        self.assertEqual(answer_of(64, 32, rules((0, [0, 0, 0, 0, 0, 0, 0, HIGHEST]))), [-3])


class Soundness(unittest.TestCase):
    def test_a_part_that_comes_to_itself_in_one_step(self):
        self.assertEqual(answer_of(1, 1, rules((0, [part(0)]))), [-4])
        self.assertEqual(answer_of(1, 2, rules((0, [0]), (1, [part(1)]))), [-4])

    def test_in_several_steps(self):
        for steps in (2, 3, 31, 32):
            ring = [(k, [part((k + 1) % steps)]) for k in range(steps)]
            self.assertEqual(answer_of(1, 32, rules(*ring)), [-4], steps)
            self.assertEqual(answer_of(1, 32, rules(*reversed(ring))), [-4], steps)
            self.assertEqual(answer_of(1, 32, rules(*ring[1:])), [0], steps)
            self.assertEqual(answer_of(1, 32, rules(*reversed(ring[:-1]))), [0], steps)

    def test_away_from_the_whole(self):
        self.assertEqual(answer_of(1, 4, rules((0, [0]), (1, [part(2)]), (2, [part(3)]), (3, [part(1)]))), [-4])

    def test_behind_a_way_in_and_a_way_out(self):
        told = ((0, [part(1)]), (1, [part(2)]), (2, [part(1)]), (2, [part(3)]), (3, [0]))
        self.assertEqual(answer_of(1, 4, rules(*told)), [-4])

    def test_two_ways_to_one_part_are_sound(self):
        told = ((0, [part(1)]), (0, [part(2)]), (1, [part(3)]), (2, [part(3)]), (1, [part(2)]))
        self.assertEqual(answer_of(1, 4, rules(*told)), [0])

    def test_itself_among_others_is_sound(self):
        self.assertEqual(answer_of(1, 1, rules((0, [part(0), part(0)]), (0, [0, part(0)]))), [0])

    def test_a_word_alone_is_no_step(self):
        self.assertEqual(answer_of(1, 1, rules((0, [0]))), [0])


class WhichRefusal(unittest.TestCase):
    def test_counts_ahead_of_rules(self):
        self.assertEqual(answer_of(0, 1, [0]), [-1])
        self.assertEqual(answer_of(1, 33, [0]), [-1])
        self.assertEqual(answer_of(65, 1, rules((0, [part(0)]))), [-1])
        self.assertEqual(answer_of(0, 0, rules((0, [part(0)]))), [-1])

    def test_rules_ahead_of_soundness(self):
        self.assertEqual(answer_of(1, 1, rules((0, [part(0)])) + [0]), [-3])
        self.assertEqual(answer_of(1, 1, rules((0, [part(0)]), (0, [part(0)]))), [-3])
        self.assertEqual(answer_of(1, 1, rules((0, [part(0)]), (0, [1]))), [-3])
        self.assertEqual(answer_of(8, 1, rules((0, [part(0)]), *distinct_rules(64))), [-3])


class Again(unittest.TestCase):
    FIRST = rules((0, [0]), (0, [part(0), 0]))

    def test_begin_makes_all_new(self):
        told = begin(1, 1, self.FIRST)
        given = ask(told, edit(0, 0, [0, 0]), UNDO, told, TREE, UNDO, REDO, edit(0, 0, [0, 0]), TREE)
        self.assertEqual(given[3:7], [[0], [-2], [-2], [-2]])
        self.assertEqual(given[7:], [[2, 2, 0, 1, 0], [2, 0, 1, 65, 64, 0, 0]])

    def test_names_that_were_given_before_mean_nothing_any_more(self):
        told = begin(2, 1, rules((0, [0]), (0, [1])))
        given = ask(told, edit(0, 0, [0]), told, edit(0, 0, [1]), edit(0, 1, [0]), UNDO)
        self.assertEqual(given[1:], [[1, 1, 0, 0], [0], [1, 1, 0, 0], [1, 1, 1, 1, 0], [1, 1, 0, 1, 1]])

    def test_another_grammar(self):
        given = ask(begin(1, 1, self.FIRST), edit(0, 0, [1]), begin(2, 1, rules((0, [1]))), edit(0, 0, [1]), TREE)
        self.assertEqual(given[1:], [[-1], [0], [1, 1, 0, 0], [1, 0, 64, 1]])
        given = ask(begin(2, 1, rules((0, [1]))), begin(1, 1, []), edit(0, 0, [1]), edit(0, 0, [0]))
        self.assertEqual(given, [[0], [0], [-1], [0, 0, 0]])

    def test_a_refused_one_leaves_all_as_it_was(self):
        refused = (begin(0, 1, []), begin(1, 0, []), begin(2, 2, [0]), begin(2, 2, rules((1, [part(1)]))))
        for wrong in refused:
            plain = [begin(1, 1, self.FIRST), edit(0, 0, [0]), edit(1, 0, [0]), UNDO]
            behind = [TREE, REDO, TREE, edit(0, 0, [1]), edit(0, 0, [0]), TREE, UNDO, UNDO, UNDO, UNDO]
            given = ask(*plain, wrong, *behind)
            self.assertLess(given[4][0], 0)
            self.assertEqual(given[:4] + given[5:], ask(*plain, *behind))


class BeforeAnyBegin(unittest.TestCase):
    def test_no_tree_and_nothing_to_undo(self):
        self.assertEqual(ask(TREE, UNDO, REDO, move(0, 1, 0)), [[-2], [-2], [-2], [-1]])

    def test_one_word_and_no_rule(self):
        given = ask(edit(0, 0, [1]), edit(0, 0, [0, 0]), TREE, move(0, 1, 1), UNDO, REDO, edit(2, 0, [0] * 23))
        self.assertEqual(given, [[-1], [0, 0, 0], [-2], [0, 0, 0], [0, 0, 0], [0, 0, 0], [-5]])

    def test_a_refused_begin(self):
        self.assertEqual(ask(begin(0, 1, []), edit(0, 0, [0]), edit(0, 0, [1])), [[-1], [0, 0, 0], [-1]])


if __name__ == "__main__":
    unittest.main()
