"""Names of words and of rules, what came and what went (promise 2)."""

import unittest

from tests.helper import REDO, TREE, UNDO, ask, begin, edit, last, move, part, rules, tree_list, tree_names

# A text is a row of pieces; a piece is a word with or without word 0 ahead of it.
ROW = rules((0, [part(1), part(0)]), (0, [part(1)]), (1, [0, part(2)]), (1, [part(2)]), (2, [1]), (2, [2]))
GRAMMAR = begin(3, 3, ROW)
# One rule over each word, and one over all.
FLAT = begin(4, 2, rules(*[(0, [part(1)] * size) for size in range(1, 8)], *[(1, [word]) for word in range(4)]))


def names_by_rule(answer):
    """Which names the tree has, by number of rule, in the order of its list."""
    found = {}
    stood = [number - 64 for number in tree_list(answer) if number >= 64]
    for rule, name in zip(stood, tree_names(answer), strict=True):
        found.setdefault(rule, []).append(name)
    return found


class NamesOfRules(unittest.TestCase):
    def test_new_ones_in_the_order_of_the_trees_list(self):
        answer = last(GRAMMAR, edit(0, 0, [0, 1, 2, 2]), TREE)
        self.assertEqual(tree_list(answer), [64, 66, 0, 68, 1, 64, 67, 69, 2, 65, 67, 69, 2])
        self.assertEqual(tree_names(answer), [0, 1, 2, 3, 4, 5, 6, 7, 8])

    def test_only_new_ones_get_the_next(self):
        given = ask(FLAT, edit(0, 0, [0, 1]), edit(1, 0, [2]), TREE)
        self.assertEqual(given[1], [3, 3, 0, 1, 2, 0])
        # The whole, over three words now, and the rule over the new word; the others stay.
        self.assertEqual(given[2], [4, 2, 3, 4, 1, 0])
        self.assertEqual(tree_names(given[3]), [3, 1, 4, 2])

    def test_the_same_word_at_another_time_is_another(self):
        given = ask(FLAT, edit(0, 0, [0]), edit(0, 1, [0]), edit(0, 1, [0]), TREE)
        self.assertEqual(given[1:4], [[2, 2, 0, 1, 0], [2, 2, 2, 3, 2, 0, 1], [2, 2, 4, 5, 2, 2, 3]])
        self.assertEqual(tree_names(given[4]), [4, 5])

    def test_a_rule_over_a_new_word_has_a_name_that_was_never_there(self):
        given = ask(GRAMMAR, edit(0, 0, [0, 1, 2]), TREE, edit(1, 1, [1]), TREE)
        self.assertEqual(tree_list(given[2]), tree_list(given[4]))
        self.assertEqual(tree_names(given[2]), [0, 1, 2, 3, 4, 5])
        self.assertEqual(tree_names(given[4]), [6, 7, 8, 3, 4, 5])

    def test_rules_ahead_of_an_edit_and_behind_it_keep_their_names(self):
        text = [0, 1, 2, 0, 2, 1]
        for i in range(7):
            given = ask(FLAT, edit(0, 0, text), TREE, edit(i, 0, [3]), TREE, edit(i, 1, []), TREE)
            before = tree_names(given[2])
            after = tree_names(given[4])
            self.assertEqual(after[1:i + 1] + after[i + 2:], before[1:])
            self.assertEqual([after[0], after[i + 1]], [7, 8])
            self.assertEqual(given[6], given[2])

    def test_another_rule_over_the_same_words_has_another_name(self):
        # With word 1 behind it, word 0 is read by part 2, else by part 1; all three names come again.
        grammar = begin(2, 3, rules((0, [part(1)]), (0, [part(2), 1]), (1, [0]), (2, [0])))
        given = ask(grammar, edit(0, 0, [0]), edit(1, 0, [1]), edit(1, 1, []), edit(1, 0, [1]), UNDO, UNDO, UNDO)
        self.assertEqual(given[1:4], [[2, 2, 0, 1, 0], [2, 2, 2, 3, 2, 0, 1], [2, 2, 0, 1, 2, 2, 3]])
        # The rule over word 0 is there again; the one over both words isn't: the second is a new word.
        self.assertEqual(given[4], [2, 2, 3, 4, 2, 0, 1])
        self.assertEqual(given[5:], [[2, 2, 0, 1, 2, 3, 4], [2, 2, 2, 3, 2, 0, 1], [2, 2, 0, 1, 2, 2, 3]])

    def test_the_same_rule_over_the_same_words_read_otherwise_within(self):
        # The whole stands over words 0 and 1, which are read in another order of rules behind the move.
        grammar = begin(2, 3, rules((0, [part(1)]), (1, [part(2), 1]), (2, [0]), (1, [1, 0])))
        given = ask(grammar, edit(0, 0, [0, 1]), move(0, 1, 1), move(0, 1, 1), TREE)
        self.assertEqual(given[1], [3, 3, 0, 1, 2, 0])
        self.assertEqual(given[2], [2, 2, 3, 4, 3, 0, 1, 2])
        self.assertEqual(given[3], [3, 3, 0, 1, 2, 2, 3, 4])
        self.assertEqual(given[4], [3, 0, 1, 2, 64, 65, 66, 0, 1])

    def test_the_order_of_the_words_counts(self):
        given = ask(FLAT, edit(0, 0, [0, 0]), move(0, 1, 1), TREE, move(1, 1, 0), TREE)
        self.assertEqual(given[2], [3, 1, 3, 1, 0])
        self.assertEqual(given[3], [3, 3, 2, 1, 65, 71, 0, 71, 0])
        self.assertEqual(given[4:], [[3, 1, 0, 1, 3], [3, 0, 1, 2, 65, 71, 0, 71, 0]])

    def test_rules_of_one_sign_over_the_same_words(self):
        grammar = begin(1, 3, rules((0, [part(1)]), (1, [part(2)]), (2, [0]), (1, [0, part(1)])))
        given = ask(grammar, edit(0, 0, [0]), TREE, edit(0, 0, [0]), TREE)
        self.assertEqual(given[2], [3, 0, 1, 2, 64, 65, 66, 0])
        self.assertEqual(given[3], [4, 2, 3, 4, 1, 0])
        self.assertEqual(given[4], [4, 3, 4, 1, 2, 64, 67, 0, 65, 66, 0])


class WordsKeepTheirNames(unittest.TestCase):
    def test_through_edits_around_them(self):
        given = ask(FLAT, edit(0, 0, [3]), edit(0, 0, [0, 1]), edit(3, 0, [2]), edit(0, 2, []), edit(1, 1, []), TREE)
        self.assertEqual(given[-1], [2, 0, 1, 64, 74, 3])

    def test_through_moves(self):
        start = edit(0, 0, [0, 1, 2, 3])
        given = ask(FLAT, start, TREE, move(0, 2, 2), TREE, move(3, 1, 0), TREE, move(0, 1, 2), TREE)
        self.assertEqual(names_by_rule(given[2]), {3: [0], 7: [1], 8: [2], 9: [3], 10: [4]})
        for k in (4, 6, 8):
            shown = names_by_rule(given[k])
            self.assertEqual([shown[rule] for rule in (7, 8, 9, 10)], [[1], [2], [3], [4]])

    def test_while_there_is_no_tree(self):
        given = ask(GRAMMAR, edit(0, 0, [1, 2]), TREE, edit(2, 0, [0]), edit(0, 0, [0]), edit(3, 1, []),
                    edit(0, 1, []), TREE)
        self.assertEqual(given[3:5], [[0, 0, 6, 0, 1, 2, 3, 4, 5], [0, 0, 0]])
        # With word 0 ahead of it there are two new rules over the first piece; the others are as they were.
        self.assertEqual(given[5], [6, 6, 2, 3, 4, 5, 6, 7, 0])
        self.assertEqual(given[6], [6, 2, 0, 1, 2, 6, 7])
        self.assertEqual(given[7], given[2])

    def test_a_word_taken_out_and_put_in_again_is_a_new_one(self):
        given = ask(FLAT, edit(0, 0, [0, 1]), edit(1, 1, []), edit(1, 0, [1]), TREE)
        self.assertEqual(given[2], [2, 1, 3, 2, 0, 2])
        self.assertEqual(given[3], [3, 2, 4, 5, 1, 3])
        self.assertEqual(tree_names(given[4]), [4, 1, 5])

    def test_names_given_after_an_undo_are_new_ones(self):
        given = ask(FLAT, edit(0, 0, [0]), UNDO, edit(0, 0, [0]), UNDO, edit(0, 0, [0]), TREE)
        self.assertEqual(given[1:], [[2, 2, 0, 1, 0], [0, 0, 2, 0, 1], [2, 2, 2, 3, 0], [0, 0, 2, 2, 3],
                                     [2, 2, 4, 5, 0], [2, 4, 5, 64, 71, 0]])

    def test_a_refused_edit_gives_no_names(self):
        given = ask(FLAT, edit(1, 0, [0]), edit(0, 0, [9]), edit(0, 0, [0] * 25), edit(0, 0, [0]))
        self.assertEqual(given[1:], [[-1], [-1], [-5], [2, 2, 0, 1, 0]])


class CameAndWent(unittest.TestCase):
    def test_the_least_first(self):
        # Behind the moves the tree's list has names out of order; they are told in order.
        given = ask(FLAT, edit(0, 0, [0, 1, 2]), move(2, 1, 0), move(1, 1, 2), TREE, edit(3, 0, [0, 9]),
                    edit(0, 3, []), UNDO)
        self.assertEqual(tree_names(given[4]), [5, 3, 2, 1])
        self.assertEqual(given[5], [-1])
        self.assertEqual(given[6], [0, 0, 4, 1, 2, 3, 5])
        self.assertEqual(given[7], [4, 4, 1, 2, 3, 5, 0])

    def test_new_names_behind_old_ones(self):
        given = ask(FLAT, edit(0, 0, [0, 1]), edit(0, 0, [2] * 6), edit(0, 6, [3]), TREE)
        self.assertEqual(given[1:3], [[3, 3, 0, 1, 2, 0], [0, 0, 3, 0, 1, 2]])
        self.assertEqual(given[3], [4, 4, 1, 2, 3, 4, 0])
        self.assertEqual(tree_names(given[4]), [3, 4, 1, 2])

    def test_a_tree_that_goes_away_and_comes_again(self):
        given = ask(FLAT, edit(0, 0, [0, 1, 2]), edit(3, 0, [3] * 5), edit(3, 5, []), edit(0, 3, []), UNDO, REDO)
        self.assertEqual(given[1], [4, 4, 0, 1, 2, 3, 0])
        self.assertEqual(given[2], [0, 0, 4, 0, 1, 2, 3])
        self.assertEqual(given[3], [4, 4, 0, 1, 2, 3, 0])
        self.assertEqual(given[4:], [given[2], given[3], given[2]])

    def test_none_came_and_none_went(self):
        given = ask(FLAT, edit(0, 0, [0, 1]), move(1, 1, 1), edit(2, 0, []))
        self.assertEqual(given[2:], [[3, 0, 0], [3, 0, 0]])


if __name__ == "__main__":
    unittest.main()
