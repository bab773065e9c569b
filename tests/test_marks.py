"""Calls 10 and 11, mark and marks: marks that are awake, asleep, and what changes them."""

import unittest

from tests.helper import HIGHEST, MARKS, REDO, TREE, UNDO, WORDS, ask, at, begin, edit, last, mark, move, node, part
from tests.helper import rules, tree_names

MOST = 10 ** 18

# One rule over each word, and one over all, of seven words at the most; word 4 stands in no rule.
FLAT = begin(5, 2, rules(*[(0, [part(1)] * size) for size in range(1, 8)], *[(1, [word]) for word in range(4)]))
# The names: 0 is the whole, 1 to 3 are over one word each.
TEXT = edit(0, 0, [0, 1, 2])

# Three rules for each word: of a text put in at once those of word k have the names 3k, 3k + 1 and 3k + 2.
LONG = begin(2, 3, rules((0, [part(1), part(0)]), (0, [part(1)]), (1, [part(2)]), (2, [0])))
LONG_TEXT = edit(0, 0, [0] * 24)


def awake(answer):
    """The marks that are awake, of an answer to marks: name, mark, first word, how many words."""
    told = [tuple(answer[k:k + 4]) for k in range(2, len(answer), 4)]
    if len(told) != answer[0] or len(answer) != 2 + 4 * answer[0]:
        raise ValueError(f"not an answer to marks: {answer}")
    return told


def many(count):
    """So many marks on the long text, name k with the mark k + 1."""
    return [mark(name, name + 1) for name in range(count)]


class Mark(unittest.TestCase):
    def test_how_many_there_are(self):
        given = ask(FLAT, TEXT, mark(0, 5), mark(2, 6), mark(3, 6), mark(1, 1))
        self.assertEqual(given[2:], [[1], [2], [3], [4]])

    def test_the_edges_of_a_mark(self):
        for v in (1, 2, MOST - 1, MOST):
            given = ask(FLAT, TEXT, mark(1, v), MARKS)
            self.assertEqual(given[2:], [[1], [1, 0, 1, v, 0, 1]], v)
        for v in (MOST + 1, 2 * MOST, HIGHEST):
            given = ask(FLAT, TEXT, mark(1, v), MARKS)
            self.assertEqual(given[2:], [[-1], [0, 0]], v)

    def test_set_anew(self):
        given = ask(FLAT, TEXT, mark(1, 5), mark(2, 6), mark(1, 7), MARKS, mark(1, 7), mark(1, MOST), MARKS)
        self.assertEqual(given[4], [2])
        self.assertEqual(awake(given[5]), [(1, 7, 0, 1), (2, 6, 1, 1)])
        self.assertEqual(given[6:8], [[2], [2]])
        self.assertEqual(awake(given[8]), [(1, MOST, 0, 1), (2, 6, 1, 1)])

    def test_0_takes_it_away(self):
        given = ask(FLAT, TEXT, mark(1, 5), mark(2, 6), mark(1, 0), MARKS, mark(2, 0), MARKS, mark(1, 3), MARKS)
        self.assertEqual(given[4], [1])
        self.assertEqual(awake(given[5]), [(2, 6, 1, 1)])
        self.assertEqual(given[6:], [[0], [0, 0], [1], [1, 0, 1, 3, 0, 1]])

    def test_0_takes_away_one_that_is_not_there(self):
        given = ask(FLAT, TEXT, mark(0, 0), mark(3, 8), mark(0, 0), mark(3, 0), mark(3, 0), MARKS)
        self.assertEqual(given[2:], [[0], [1], [1], [0], [0], [0, 0]])

    def test_those_asleep_are_counted(self):
        given = ask(FLAT, TEXT, mark(1, 5), mark(2, 6), edit(0, 2, []), mark(3, 7), MARKS, mark(3, 0), mark(3, 0))
        self.assertEqual(given[5], [3])
        self.assertEqual(given[6], [1, 2, 3, 7, 0, 1])
        self.assertEqual(given[7:], [[2], [2]])

    def test_the_same_mark_on_several(self):
        self.assertEqual(awake(last(FLAT, TEXT, mark(1, 9), mark(2, 9), MARKS)), [(1, 9, 0, 1), (2, 9, 1, 1)])


class MarkRefused(unittest.TestCase):
    def refused(self, answer, wrong, ahead):
        """The call is answered so, and nothing that is asked behind it is answered otherwise."""
        behind = [MARKS, TREE, WORDS, at(0, 1), node(0), REDO, MARKS, UNDO, MARKS, UNDO, MARKS, edit(0, 0, [0]), MARKS]
        given = ask(*ahead, wrong, *behind)
        self.assertEqual(given[len(ahead)], [answer], wrong)
        self.assertEqual(given[:len(ahead)] + given[len(ahead) + 1:], ask(*ahead, *behind), wrong)

    # Names 0 to 4 were given, 0 to 3 are in the tree, and there's an edit to redo.
    FEW = [FLAT, TEXT, mark(1, 5), mark(3, 6), edit(0, 2, []), UNDO]

    def test_above_the_most(self):
        for v in (MOST + 1, HIGHEST):
            for name in (0, 1):
                self.refused(-1, mark(name, v), self.FEW)

    def test_no_rule_ever_had_this_name(self):
        for name in (5, 6, 64, HIGHEST):
            for v in (0, 1, MOST):
                self.refused(-2, mark(name, v), self.FEW)
        self.assertEqual(ask(mark(0, 1), mark(0, 0), mark(HIGHEST, 1)), [[-2]] * 3)
        self.assertEqual(ask(FLAT, mark(0, 1), edit(0, 0, [4]), mark(0, 1))[1::2], [[-2], [-2]])
        self.assertEqual(last(FLAT, TEXT, mark(3, 1), FLAT, mark(3, 1)), [-2])

    def test_it_is_not_in_the_tree(self):
        for v in (0, 1, MOST):
            self.refused(-3, mark(4, v), self.FEW)
            # One that's asleep can't be set anew, nor taken away.
            self.refused(-3, mark(1, v), [FLAT, TEXT, mark(1, 5), edit(0, 1, [3]), edit(0, 0, []), UNDO])
            # There's no tree.
            self.refused(-3, mark(1, v), [FLAT, TEXT, mark(1, 5), edit(0, 1, [4]), edit(0, 0, []), UNDO])
            self.refused(-3, mark(1, v), [FLAT, TEXT, mark(1, 5), edit(0, 3, []), edit(0, 0, []), UNDO])

    def test_in_the_tree_again(self):
        given = ask(FLAT, TEXT, mark(1, 5), edit(0, 1, [3]), mark(1, 6), UNDO, mark(1, 6), MARKS, mark(1, 0))
        self.assertEqual(given[4], [-3])
        self.assertEqual(given[6:], [[1], [1, 0, 1, 6, 0, 1], [0]])

    def test_63_64_and_65(self):
        given = ask(LONG, LONG_TEXT, *many(65), MARKS)
        self.assertEqual(given[2:66], [[count] for count in range(1, 65)])
        self.assertEqual(given[66], [-5])
        self.assertEqual(given[67][:2], [64, 0])
        self.assertEqual([told[:2] for told in awake(given[67])], [(name, name + 1) for name in range(64)])

    def test_64_others(self):
        ahead = [LONG, LONG_TEXT, *many(64), edit(0, 1, []), UNDO]
        for name in (64, 70, 71):
            for v in (1, MOST):
                self.refused(-5, mark(name, v), ahead)

    def test_0_where_there_are_64(self):
        given = ask(LONG, LONG_TEXT, *many(64), mark(71, 0), mark(64, 0), mark(5, 0), mark(64, 9), mark(65, 9))
        self.assertEqual(given[66:], [[64], [64], [63], [64], [-5]])

    def test_set_anew_where_there_are_64(self):
        given = ask(LONG, LONG_TEXT, *many(64), mark(0, 77), mark(63, MOST), MARKS)
        self.assertEqual(given[66:68], [[64], [64]])
        self.assertEqual([awake(given[68])[k][1] for k in (0, 1, 62, 63)], [77, 2, 63, MOST])

    def test_those_asleep_are_among_the_64(self):
        given = ask(LONG, LONG_TEXT, *many(64), edit(0, 23, []), MARKS, mark(69, 1), mark(71, 0), UNDO, mark(0, 0),
                    REDO, mark(69, 1), mark(70, 1), MARKS)
        self.assertEqual(given[67], [0, 64])
        self.assertEqual(given[68:70], [[-5], [64]])
        self.assertEqual(given[71], [63])
        self.assertEqual(given[73:], [[64], [-5], [1, 63, 69, 1, 0, 1]])

    def test_the_one_told_first(self):
        full = [LONG, LONG_TEXT, *many(64), edit(23, 1, []), edit(0, 0, [0]), UNDO]
        self.refused(-5, mark(64, 1), full)
        # -1 ahead of all: never given, not in the tree, 64 others.
        self.refused(-1, mark(HIGHEST, MOST + 1), self.FEW)
        self.refused(-1, mark(4, MOST + 1), self.FEW)
        self.refused(-1, mark(1, MOST + 1), [FLAT, TEXT, edit(0, 1, [4]), edit(0, 0, []), UNDO])
        self.refused(-1, mark(64, MOST + 1), full)
        self.refused(-1, mark(HIGHEST, HIGHEST), full)
        # -2 and -3 ahead of 64 others.
        self.refused(-2, mark(HIGHEST, 1), full)
        self.refused(-3, mark(71, 1), full)

    def test_a_mark_that_was_refused_is_not_there_later(self):
        given = ask(FLAT, TEXT, edit(0, 1, [3]), mark(1, 5), UNDO, MARKS)
        self.assertEqual(given[3:], [[-3], [4, 2, 0, 1, 2, 4, 5], [0, 0]])
        given = ask(FLAT, mark(0, 5), TEXT, MARKS)
        self.assertEqual([given[1], given[3]], [[-2], [0, 0]])


class Marks(unittest.TestCase):
    def test_none(self):
        self.assertEqual(ask(MARKS, FLAT, MARKS, TEXT, MARKS)[::2], [[0, 0]] * 3)

    def test_in_the_order_of_the_trees_list(self):
        given = ask(FLAT, TEXT, mark(3, 30), mark(0, 10), mark(2, 20), MARKS, move(2, 1, 0), TREE, MARKS)
        self.assertEqual(given[5], [3, 0, 0, 10, 0, 3, 2, 20, 1, 1, 3, 30, 2, 1])
        self.assertEqual(tree_names(given[7]), [4, 3, 1, 2])
        self.assertEqual(given[8], [2, 1, 3, 30, 0, 1, 2, 20, 2, 1])

    def test_rules_within_one_another(self):
        marked = [mark(5, 1), mark(2, 2), mark(0, 3), mark(4, 4), mark(3, 5), mark(1, 6)]
        given = ask(LONG, edit(0, 0, [0, 0]), *marked, MARKS)
        self.assertEqual(awake(given[8]), [(0, 3, 0, 2), (1, 6, 0, 1), (2, 2, 0, 1), (3, 5, 1, 1), (4, 4, 1, 1),
                                           (5, 1, 1, 1)])

    def test_the_first_word_changes_by_edits_ahead(self):
        given = ask(FLAT, TEXT, mark(2, 9), MARKS, edit(0, 0, [3, 3]), MARKS, edit(1, 2, []), MARKS, edit(2, 0, [3]),
                    MARKS, move(1, 1, 0), MARKS)
        self.assertEqual(given[3::2], [[1, 0, 2, 9, 1, 1], [1, 0, 2, 9, 3, 1], [1, 0, 2, 9, 1, 1], [1, 0, 2, 9, 1, 1],
                                       [1, 0, 2, 9, 0, 1]])

    def test_asleep_by_an_edit_and_awake_by_undo(self):
        given = ask(FLAT, TEXT, mark(0, 7), mark(2, 9), MARKS, edit(1, 1, []), MARKS, UNDO, MARKS, REDO, MARKS)
        self.assertEqual(given[4], [2, 0, 0, 7, 0, 3, 2, 9, 1, 1])
        self.assertEqual(given[6::2], [[0, 2], given[4], [0, 2]])

    def test_asleep_while_there_is_no_tree(self):
        given = ask(FLAT, TEXT, mark(0, 7), mark(2, 9), edit(0, 0, [4]), MARKS, edit(0, 1, []), MARKS, edit(0, 3, []),
                    MARKS, UNDO, MARKS)
        self.assertEqual(given[5::2], [[0, 2], [2, 0, 0, 7, 0, 3, 2, 9, 1, 1], [0, 2], [2, 0, 0, 7, 0, 3, 2, 9, 1, 1]])

    def test_awake_by_an_edit_that_brings_the_rule_back(self):
        # The whole over three words sleeps while there's a fourth.
        given = ask(FLAT, TEXT, mark(0, 7), edit(1, 0, [3]), MARKS, edit(1, 1, []), MARKS)
        self.assertEqual(given[4::2], [[0, 1], [1, 0, 0, 7, 0, 3]])

    def test_awake_by_a_move_that_brings_the_rule_back(self):
        given = ask(FLAT, TEXT, mark(0, 7), move(0, 1, 2), MARKS, move(0, 2, 1), MARKS)
        self.assertEqual(given[4::2], [[0, 1], [1, 0, 0, 7, 0, 3]])

    def test_awake_somewhere_else(self):
        grammar = begin(3, 2, rules((0, [part(1), 2]), (0, [2, part(1)]), (1, [0, 1])))
        # Words 0 and 1 come behind one another again, behind word 2.
        given = ask(grammar, edit(0, 0, [0, 1, 2]), mark(1, 4), MARKS, move(0, 1, 1), MARKS, move(2, 1, 0), MARKS,
                    move(1, 1, 2), MARKS)
        self.assertEqual(given[3::2], [[1, 0, 1, 4, 0, 2], [0, 1], [0, 1], [1, 0, 1, 4, 1, 2]])
        self.assertEqual(last(grammar, edit(0, 0, [0, 1, 2]), mark(1, 4), move(0, 2, 1), MARKS), [1, 0, 1, 4, 1, 2])

    def test_the_same_words_put_in_anew_are_others(self):
        given = ask(FLAT, TEXT, mark(0, 7), mark(1, 8), mark(3, 9), edit(0, 1, [0]), MARKS,
                    edit(0, 3, [0, 1, 2]), MARKS)
        self.assertEqual(given[6::2], [[1, 2, 3, 9, 2, 1], [0, 3]])

    def test_another_rule_over_the_same_words_has_another_mark(self):
        # With word 1 behind it, word 0 is read by part 2, else by part 1.
        grammar = begin(2, 3, rules((0, [part(1)]), (0, [part(2), 1]), (1, [0]), (2, [0])))
        given = ask(grammar, edit(0, 0, [0]), mark(1, 5), edit(1, 0, [1]), MARKS, mark(3, 6), MARKS,
                    edit(1, 1, []), MARKS)
        self.assertEqual(given[4:7], [[0, 1], [2], [1, 1, 3, 6, 0, 1]])
        self.assertEqual(given[8], [1, 1, 1, 5, 0, 1])

    def test_64_awake(self):
        given = ask(LONG, LONG_TEXT, *reversed(many(64)), MARKS)
        # Rules of part 0 stand over all words from theirs on, the two others of a word over this one.
        expected = [(name, name + 1, name // 3, 1 if name % 3 else 24 - name // 3) for name in range(64)]
        self.assertEqual(given[66][:2], [64, 0])
        self.assertEqual(awake(given[66]), expected)


class UndoAndMarks(unittest.TestCase):
    def test_undo_and_redo_change_no_mark(self):
        given = ask(FLAT, TEXT, mark(1, 5), edit(3, 0, [3]), mark(1, 6), UNDO, MARKS, REDO, MARKS)
        self.assertEqual(given[6::2], [[1, 0, 1, 6, 0, 1]] * 2)

    def test_a_mark_that_was_taken_away_does_not_come_back(self):
        given = ask(FLAT, TEXT, mark(1, 5), edit(3, 0, [3]), mark(1, 0), UNDO, MARKS, UNDO, MARKS, REDO, REDO, MARKS)
        self.assertEqual([given[6], given[8], given[11]], [[0, 0]] * 3)

    def test_a_mark_on_a_rule_that_undo_takes_away(self):
        given = ask(FLAT, TEXT, edit(3, 0, [3]), mark(5, 8), mark(1, 2), UNDO, MARKS, UNDO, MARKS, REDO, MARKS,
                    REDO, MARKS)
        self.assertEqual(given[6::2], [[1, 1, 1, 2, 0, 1], [0, 2], [1, 1, 1, 2, 0, 1], [2, 0, 1, 2, 0, 1, 5, 8, 3, 1]])

    def test_mark_is_no_step_to_undo_and_leaves_what_there_is_to_redo(self):
        given = ask(FLAT, TEXT, edit(3, 0, [3]), UNDO, mark(1, 5), mark(1, 0), mark(2, 4), REDO, MARKS, UNDO, UNDO,
                    UNDO)
        self.assertEqual(given[7], given[2])
        self.assertEqual(given[8], [1, 0, 2, 4, 1, 1])
        self.assertEqual([given[10][0], given[11]], [0, [-2]])

    def test_right_behind_a_change(self):
        # Promise 3: the marks that are awake are back as they were, and again as they were behind the change.
        marked = [mark(0, 50), mark(1, 51), mark(3, 53)]
        for change in (edit(0, 0, [1]), edit(0, 1, []), edit(1, 1, [0, 0]), edit(0, 3, []), edit(1, 0, [4]),
                       edit(0, 0, []), move(0, 1, 2), move(1, 2, 0), move(0, 3, 0)):
            given = ask(FLAT, TEXT, *marked, MARKS, WORDS, TREE, change, MARKS, WORDS, TREE, UNDO, MARKS, WORDS, TREE,
                        REDO, MARKS, WORDS, TREE)
            self.assertEqual(given[5], [3, 0, 0, 50, 0, 3, 1, 51, 0, 1, 3, 53, 2, 1])
            self.assertEqual(given[13:16], given[5:8])
            self.assertEqual(given[17:20], given[9:12])
            self.assertEqual(given[16], given[8])


class BeginAndMarks(unittest.TestCase):
    def test_begin_leaves_none(self):
        given = ask(FLAT, TEXT, mark(0, 5), mark(1, 6), FLAT, MARKS, TEXT, MARKS, mark(2, 3), MARKS)
        self.assertEqual(given[5::2], [[0, 0], [0, 0], [1, 0, 2, 3, 1, 1]])
        self.assertEqual(given[8], [1])

    def test_nor_those_asleep(self):
        given = ask(FLAT, TEXT, mark(0, 5), edit(0, 0, [3]), FLAT, MARKS, TEXT, MARKS)
        self.assertEqual(given[5::2], [[0, 0], [0, 0]])

    def test_behind_it_there_may_be_64_again(self):
        given = ask(LONG, LONG_TEXT, *many(40), LONG, LONG_TEXT, *many(65))
        self.assertEqual(given[-2:], [[64], [-5]])

    def test_a_refused_one_leaves_them(self):
        for wrong in (begin(0, 1, []), begin(1, 33, []), begin(1, 1, [0]), begin(1, 1, rules((0, [part(0)])))):
            given = ask(FLAT, TEXT, mark(0, 5), mark(2, 6), edit(1, 0, [3]), wrong, MARKS, UNDO, MARKS)
            self.assertLess(given[5][0], 0)
            self.assertEqual(given[6], [1, 1, 2, 6, 2, 1])
            self.assertEqual(given[8], [2, 0, 0, 5, 0, 3, 2, 6, 1, 1])


if __name__ == "__main__":
    unittest.main()
