"""Calls 7, 8 and 9: words, node and at."""

import unittest

from tests.helper import HIGHEST, MARKS, REDO, TREE, UNDO, WORDS, ask, at, begin, edit, last, mark, move, node, part
from tests.helper import places, rules, tree_list, tree_names

# One rule over each word, and one over all, of seven words at the most; word 4 stands in no rule.
FLAT = begin(5, 2, rules(*[(0, [part(1)] * size) for size in range(1, 8)], *[(1, [word]) for word in range(4)]))

# A row of pieces; a piece is words 0 and 1, or word 2 in three rules of one sign.
TOLD = [(0, [part(1), part(0)]), (0, [part(1)]), (1, [0, 1]), (1, [part(2)]), (2, [part(3)]), (3, [2])]
ROW = begin(4, 4, rules(*TOLD))
# Its tree is 64 [66 0 1] 64 [67 68 69 2] 65 [66 0 1]; the names are 0 to 7 in this order.
TEXT = edit(0, 0, [0, 1, 2, 0, 1])


def shown(answer):
    """Names and words, of an answer to words."""
    return list(zip(answer[1::2], answer[2::2], strict=True))


class Words(unittest.TestCase):
    def test_no_words(self):
        self.assertEqual(ask(WORDS), [[0]])
        self.assertEqual(last(FLAT, WORDS), [0])
        self.assertEqual(last(FLAT, edit(0, 0, []), WORDS), [0])
        self.assertEqual(last(FLAT, edit(0, 0, [1, 2]), edit(0, 2, []), WORDS), [0])
        self.assertEqual(last(FLAT, edit(0, 0, [1, 2]), UNDO, WORDS), [0])
        self.assertEqual(last(FLAT, edit(0, 0, [1, 2]), FLAT, WORDS), [0])

    def test_behind_one_edit(self):
        self.assertEqual(last(FLAT, edit(0, 0, [3]), WORDS), [1, 0, 3])
        self.assertEqual(last(FLAT, edit(0, 0, [3, 0, 3]), WORDS), [3, 0, 3, 1, 0, 2, 3])

    def test_before_any_begin(self):
        self.assertEqual(last(edit(0, 0, [0, 0]), WORDS), [2, 0, 0, 1, 0])

    def test_behind_edits(self):
        start = edit(0, 0, [0, 1, 2])
        for i, n, new, expected in ((0, 0, [3, 3], [(3, 3), (4, 3), (0, 0), (1, 1), (2, 2)]),
                                    (1, 0, [3, 2], [(0, 0), (3, 3), (4, 2), (1, 1), (2, 2)]),
                                    (3, 0, [1], [(0, 0), (1, 1), (2, 2), (3, 1)]),
                                    (1, 1, [1], [(0, 0), (3, 1), (2, 2)]),
                                    (0, 2, [], [(2, 2)]),
                                    (0, 3, [0, 1], [(3, 0), (4, 1)]),
                                    (1, 0, [], [(0, 0), (1, 1), (2, 2)])):
            answer = last(FLAT, start, edit(i, n, new), WORDS)
            self.assertEqual(answer[0], len(expected))
            self.assertEqual(shown(answer), expected)

    def test_behind_moves(self):
        start = edit(0, 0, [0, 1, 2, 0])
        for i, n, to, names in ((0, 1, 3, [1, 2, 3, 0]), (2, 2, 0, [2, 3, 0, 1]), (1, 2, 2, [0, 3, 1, 2]),
                                (0, 4, 0, [0, 1, 2, 3]), (3, 1, 3, [0, 1, 2, 3])):
            words = [(0, 1, 2, 0)[name] for name in names]
            self.assertEqual(shown(last(FLAT, start, move(i, n, to), WORDS)), list(zip(names, words)))

    def test_behind_undo_and_redo(self):
        changes = [edit(0, 0, [0, 1]), edit(1, 0, [2]), move(0, 1, 2), edit(0, 2, [3, 3, 3]), edit(1, 3, [])]
        texts = [[], [(0, 0), (1, 1)], [(0, 0), (2, 2), (1, 1)], [(2, 2), (1, 1), (0, 0)],
                 [(3, 3), (4, 3), (5, 3), (0, 0)], [(3, 3)]]
        calls = [call for change in changes for call in (change, WORDS)]
        calls += [UNDO, WORDS] * 5 + [REDO, WORDS] * 5
        given = ask(FLAT, WORDS, *calls)
        self.assertEqual([shown(answer) for answer in given[1::2]], texts + texts[-2::-1] + texts[1:])

    def test_names_go_on_behind_undo(self):
        given = ask(FLAT, edit(0, 0, [0]), UNDO, edit(0, 0, [0, 1]), WORDS, UNDO, edit(0, 0, [0]), WORDS)
        self.assertEqual(shown(given[4]), [(1, 0), (2, 1)])
        self.assertEqual(shown(given[7]), [(3, 0)])

    def test_a_refused_edit_gives_no_names(self):
        given = ask(FLAT, edit(1, 0, [0]), edit(0, 0, [9]), edit(0, 0, [0] * 25), edit(0, 0, [2]), WORDS)
        self.assertEqual(given[5], [1, 0, 2])

    def test_begin_begins_names_anew(self):
        self.assertEqual(last(FLAT, edit(0, 0, [0, 1]), FLAT, edit(0, 0, [2]), WORDS), [1, 0, 2])

    def test_without_a_tree(self):
        self.assertEqual(ask(FLAT, edit(0, 0, [4, 1]), WORDS, TREE)[2:], [[2, 0, 4, 1, 1], [-2]])

    def test_24_words_of_64(self):
        words = list(range(63, 39, -1))
        answer = last(begin(64, 1, []), edit(0, 0, words), WORDS)
        self.assertEqual(answer[0], 24)
        self.assertEqual(shown(answer), list(zip(range(24), words)))


class Node(unittest.TestCase):
    def test_each_rule_of_a_tree(self):
        given = ask(ROW, TEXT, TREE, *[node(name) for name in range(8)])
        self.assertEqual(given[2], [8, 0, 1, 2, 3, 4, 5, 6, 7, 64, 66, 0, 1, 64, 67, 68, 69, 2, 65, 66, 0, 1])
        self.assertEqual(given[3:], [[0, 0, 5, 0], [2, 0, 2, 1], [0, 2, 3, 1], [3, 2, 1, 3], [4, 2, 1, 4], [5, 2, 1, 5],
                                     [1, 3, 2, 3], [2, 3, 2, 7]])

    def test_rules_of_one_sign_around_all(self):
        told = [(0, [part(1)]), (1, [part(2)]), (2, [0, 0]), (2, [part(3), 0]), (3, [0, 0])]
        given = ask(begin(1, 4, rules(*told)), edit(0, 0, [0, 0, 0]), *[node(name) for name in range(4)], node(4))
        self.assertEqual(given[2:], [[0, 0, 3, 0], [1, 0, 3, 1], [3, 0, 3, 2], [4, 0, 2, 3], [-2]])

    def test_one_rule_is_the_whole(self):
        self.assertEqual(ask(begin(1, 1, rules((0, [0]))), edit(0, 0, [0]), node(0))[2], [0, 0, 1, 0])

    def test_the_deepest_tree(self):
        told = [(k, [part(k + 1)]) for k in range(31)] + [(31, [0]), (31, [part(0), part(0)])]
        grammar = begin(1, 32, rules(*told))
        tree = last(grammar, edit(0, 0, [0] * 24), TREE)
        expected = places(told, tree_list(tree))
        self.assertEqual(len(expected), 23 * 64 + 32)
        for start in range(0, len(expected), 118):
            asked = list(range(start, min(len(expected), start + 118)))
            given = ask(grammar, edit(0, 0, [0] * 24), *[node(name) for name in asked])[2:]
            for name, answer in zip(asked, given):
                rule, first, size, around = expected[name]
                self.assertEqual(answer, [rule, first, size, 0 if around is None else around + 1])

    def test_behind_changes_it_may_stand_elsewhere_and_within_another(self):
        # The piece of name 7 is moved to the front; the rules of part 0 over new rows are new.
        given = ask(ROW, TEXT, move(3, 2, 0), TREE, node(7), node(1), node(5), edit(0, 0, [2]), node(7), edit(0, 5, []),
                    TREE, node(5), node(7))
        self.assertEqual(tree_names(given[3]), [8, 7, 9, 1, 10, 3, 4, 5])
        self.assertEqual(given[4:7], [[2, 0, 2, 9], [2, 2, 2, 10], [5, 4, 1, 5]])
        self.assertEqual(given[8][:3], [2, 1, 2])
        self.assertEqual(tree_names(given[10])[1:], [3, 4, 5])
        self.assertEqual(given[11:], [[5, 0, 1, 5], [-3]])

    def test_no_rule_ever_had_this_name(self):
        for name, answer in ((7, 0), (8, -2), (9, -2), (HIGHEST - 1, -2), (HIGHEST, -2)):
            self.assertEqual(last(ROW, TEXT, node(name))[0], 2 if answer == 0 else answer)
        self.assertEqual(ask(node(0), node(1), node(HIGHEST)), [[-2]] * 3)
        self.assertEqual(ask(ROW, node(0), edit(0, 0, [0]), node(0), edit(1, 0, [1]), node(0), node(2))[1:],
                         [[-2], [0, 0, 0], [-2], [2, 2, 0, 1, 0], [1, 0, 2, 0], [-2]])

    def test_the_next_name_behind_changes(self):
        # The edit gives the names 8 to 14; undo takes none of them back.
        given = ask(ROW, TEXT, node(8), edit(5, 0, [2]), node(14), node(15), UNDO, node(8), node(14), node(15),
                    edit(0, 0, [2]), node(14), node(15), REDO, node(21), node(22))
        self.assertEqual(given[3], [12, 7, 8, 9, 10, 11, 12, 13, 14, 3, 0, 2, 6])
        self.assertEqual([given[2]] + given[4:6], [[-2], [5, 5, 1, 14], [-2]])
        self.assertEqual(given[7:10], [[-3], [-3], [-2]])
        self.assertEqual(given[10], [12, 4, 15, 16, 17, 18, 0])
        self.assertEqual(given[11:], [[-3], [0, 0, 6, 0], [-2], [-2], [-2]])

    def test_behind_a_begin(self):
        given = ask(ROW, TEXT, node(0), ROW, node(0), edit(0, 0, [2]), node(0), node(4), node(5))
        self.assertEqual(given[2], [0, 0, 5, 0])
        self.assertEqual(given[4], [-2])
        self.assertEqual(given[6:], [[1, 0, 1, 0], [-2], [-2]])

    def test_behind_a_refused_begin(self):
        self.assertEqual(ask(ROW, TEXT, begin(0, 1, []), node(7))[-1], [2, 3, 2, 7])

    def test_it_is_not_in_the_tree(self):
        given = ask(ROW, TEXT, edit(0, 2, []), node(0), node(1), node(2), node(3), UNDO, node(0), node(1), REDO,
                    node(0))
        self.assertEqual(given[3:5], [[-3], [-3]])
        self.assertEqual(given[5:7], [[0, 0, 3, 0], [3, 0, 1, 3]])
        self.assertEqual(given[8:10], [[0, 0, 5, 0], [2, 0, 2, 1]])
        self.assertEqual(given[11], [-3])

    def test_there_is_no_tree(self):
        given = ask(ROW, TEXT, edit(2, 0, [3]), node(0), node(7), node(8), UNDO, node(7), edit(0, 5, []), node(7), UNDO,
                    UNDO, node(0), node(8))
        self.assertEqual(given[3:6], [[-3], [-3], [-2]])
        self.assertEqual(given[7], [2, 3, 2, 7])
        self.assertEqual(given[9], [-3])
        self.assertEqual(given[12:], [[-3], [-2]])

    def test_brought_back_by_an_edit(self):
        given = ask(ROW, TEXT, edit(2, 0, [3]), node(5), edit(2, 1, []), node(5))
        self.assertEqual(given[3::2], [[-3], [5, 2, 1, 5]])


class At(unittest.TestCase):
    def test_one_word(self):
        given = ask(ROW, TEXT, *[at(i, i + 1) for i in range(5)])
        self.assertEqual(given[2:], [[1], [1], [5], [7], [7]])

    def test_several(self):
        given = ask(ROW, TEXT, at(0, 2), at(3, 5), at(1, 3), at(2, 4), at(2, 5), at(0, 3), at(1, 5), at(0, 4))
        self.assertEqual(given[2:], [[1], [7], [0], [2], [2], [0], [0], [0]])

    def test_the_whole_text(self):
        self.assertEqual(ask(ROW, TEXT, at(0, 5))[-1], [0])
        self.assertEqual(ask(FLAT, edit(0, 0, [0, 1, 2]), at(0, 3))[-1], [0])

    def test_rules_of_one_sign_over_the_same_words(self):
        self.assertEqual(ask(ROW, edit(0, 0, [2]), TREE, at(0, 1))[2:], [[4, 0, 1, 2, 3, 65, 67, 68, 69, 2], [3]])
        told = [(k, [part(k + 1)]) for k in range(31)] + [(31, [0]), (31, [part(0), part(0)])]
        given = ask(begin(1, 32, rules(*told)), edit(0, 0, [0, 0]), at(0, 1), at(1, 2), at(0, 2))
        self.assertEqual(given[2:], [[63], [95], [31]])

    def test_a_word_beside_smaller_rules(self):
        # Word 1 stands in the whole alone, between two rules of part 1.
        grammar = begin(2, 2, rules((0, [part(1), 1, part(1)]), (1, [0, 0])))
        given = ask(grammar, edit(0, 0, [0, 0, 1, 0, 0]), at(2, 3), at(0, 2), at(3, 5), at(1, 3), at(2, 4), at(1, 4))
        self.assertEqual(given[2:], [[0], [1], [2], [0], [0], [0]])

    def test_names_are_answered_not_places(self):
        given = ask(ROW, TEXT, move(3, 2, 0), at(0, 1), at(2, 4), at(4, 5), at(0, 5), at(3, 5))
        self.assertEqual(given[3:], [[7], [1], [5], [8], [9]])

    def test_every_stretch_of_a_text(self):
        text = [2, 0, 1, 2, 2, 0, 1]
        tree = last(ROW, edit(0, 0, [2]), edit(0, 0, text[:6]), edit(6, 1, [1]), TREE)
        stood = list(zip(tree_names(tree), places(TOLD, tree_list(tree)), strict=True))
        for i in range(9):
            for j in range(10):
                answer = last(ROW, edit(0, 0, [2]), edit(0, 0, text[:6]), edit(6, 1, [1]), at(i, j))
                over = [name for name, place in stood if i < j and place[1] <= i and j <= place[1] + place[2]]
                self.assertEqual(answer, over[-1:] or [-1])

    def test_not_a_stretch(self):
        wrong = [(0, 0), (2, 2), (5, 5), (3, 1), (5, 0), (0, 6), (4, 6), (5, 6), (6, 6), (6, 7), (7, 3), (0, HIGHEST),
                 (HIGHEST, 0), (HIGHEST, HIGHEST), (HIGHEST - 1, HIGHEST)]
        for i, j in wrong:
            self.assertEqual(last(ROW, TEXT, at(i, j)), [-1], (i, j))
            # There's no tree, but that's told later.
            self.assertEqual(last(ROW, edit(0, 0, [0, 1, 2, 3, 1]), at(i, j)), [-1], (i, j))
            self.assertEqual(last(ROW, at(i, j)), [-1], (i, j))
            self.assertEqual(ask(at(i, j)), [[-1]], (i, j))
        self.assertEqual(ask(at(0, 1), ROW, at(0, 1)), [[-1], [0], [-1]])

    def test_there_is_no_tree(self):
        for i, j in ((0, 1), (0, 3), (2, 3), (1, 3)):
            self.assertEqual(last(ROW, edit(0, 0, [0, 1, 3]), at(i, j)), [-2], (i, j))
        self.assertEqual(last(ROW, edit(0, 0, [0, 1, 3]), at(0, 4)), [-1])
        self.assertEqual(last(edit(0, 0, [0]), at(0, 1)), [-2])

    def test_behind_undo_and_redo(self):
        given = ask(ROW, TEXT, edit(0, 2, [3]), at(0, 1), at(0, 5), UNDO, at(0, 1), at(0, 5), REDO, at(0, 4), at(0, 5))
        self.assertEqual(given[3:5] + given[6:8] + given[9:], [[-2], [-1], [1], [0], [-2], [-1]])


class AskingChangesNothing(unittest.TestCase):
    def test_refused_or_not(self):
        ahead = [ROW, TEXT, mark(3, 7), edit(0, 2, []), edit(0, 0, [2]), UNDO]
        behind = [TREE, WORDS, MARKS, REDO, TREE, UNDO, UNDO, MARKS, UNDO, UNDO, REDO, edit(0, 0, [2]), TREE, WORDS]
        plain = ask(*ahead, *behind)
        for call in (WORDS, MARKS, TREE, node(0), node(3), node(99), at(0, 1), at(0, 3), at(0, 0), at(0, 99)):
            given = ask(*ahead, call, call, *behind)
            self.assertEqual(given[6], given[7])
            self.assertEqual(given[:6] + given[8:], plain)


if __name__ == "__main__":
    unittest.main()
