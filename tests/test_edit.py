"""Calls 2 and 3, edit and move: what they do to the text, what they answer, and each refusal."""

import unittest

from tests.helper import HIGHEST, REDO, TREE, UNDO, ask, begin, edit, last, move, part, rules, tree_list

# Every text of one to 24 of these words has one reading, which shows the words in order.
WORDS = 8
ANY_TEXT = begin(WORDS, 2, rules((0, [part(1)]), (0, [part(1), part(0)]), *[(1, [w]) for w in range(WORDS)]))


def words_of(answer):
    return [number for number in tree_list(answer) if number < 64]


def text_behind(*calls):
    return words_of(last(ANY_TEXT, *calls, TREE))


class Texts(unittest.TestCase):
    def test_put_in(self):
        start = edit(0, 0, [1, 2, 3])
        self.assertEqual(text_behind(start), [1, 2, 3])
        self.assertEqual(text_behind(start, edit(0, 0, [4, 5])), [4, 5, 1, 2, 3])
        self.assertEqual(text_behind(start, edit(2, 0, [4, 5])), [1, 2, 4, 5, 3])
        self.assertEqual(text_behind(start, edit(3, 0, [4, 5])), [1, 2, 3, 4, 5])

    def test_take_out(self):
        start = edit(0, 0, [1, 2, 3, 4])
        self.assertEqual(text_behind(start, edit(0, 1, [])), [2, 3, 4])
        self.assertEqual(text_behind(start, edit(1, 2, [])), [1, 4])
        self.assertEqual(text_behind(start, edit(3, 1, [])), [1, 2, 3])
        self.assertEqual(text_behind(start, edit(0, 4, []), edit(0, 0, [5])), [5])

    def test_both_at_once(self):
        start = edit(0, 0, [1, 2, 3, 4])
        self.assertEqual(text_behind(start, edit(0, 1, [5, 6])), [5, 6, 2, 3, 4])
        self.assertEqual(text_behind(start, edit(1, 2, [5])), [1, 5, 4])
        self.assertEqual(text_behind(start, edit(2, 2, [5, 6, 7])), [1, 2, 5, 6, 7])
        self.assertEqual(text_behind(start, edit(0, 4, [7])), [7])

    def test_neither(self):
        start = edit(0, 0, [1, 2])
        for i in range(3):
            self.assertEqual(ask(ANY_TEXT, start, edit(i, 0, []))[-1], [4, 0, 0])
            self.assertEqual(text_behind(start, edit(i, 0, [])), [1, 2])

    def test_neither_is_an_edit_to_undo(self):
        given = ask(ANY_TEXT, edit(0, 0, [1]), edit(0, 0, []), UNDO, UNDO, UNDO)
        self.assertEqual(given[2:], [[2, 0, 0], [2, 0, 0], [0, 0, 2, 0, 1], [-2]])
        given = ask(ANY_TEXT, edit(0, 0, [1]), UNDO, edit(0, 0, []), REDO)
        self.assertEqual(given[3:], [[0, 0, 0], [-2]])


class Answers(unittest.TestCase):
    GRAMMAR = begin(3, 2, rules((0, [0, 1]), (0, [0, part(1)]), (1, [1, 2]), (1, [2])))

    def test_came_and_went(self):
        given = ask(self.GRAMMAR, edit(0, 0, [0, 1]), edit(2, 0, [2]), edit(1, 1, []), edit(0, 2, []))
        self.assertEqual(given[1:], [[1, 1, 0, 0], [2, 2, 1, 2, 1, 0], [2, 2, 3, 4, 2, 1, 2], [0, 0, 2, 3, 4]])

    def test_a_text_with_no_reading(self):
        given = ask(self.GRAMMAR, edit(0, 0, [0, 1]), edit(0, 0, [2]), TREE, edit(0, 1, []), TREE)
        self.assertEqual(given[1:], [[1, 1, 0, 0], [0, 0, 1, 0], [-2], [1, 1, 0, 0], [1, 0, 64, 0, 1]])

    def test_a_text_with_no_words(self):
        given = ask(self.GRAMMAR, edit(0, 0, []), TREE, edit(0, 0, [0, 1]), edit(0, 2, []), TREE)
        self.assertEqual(given[1:], [[0, 0, 0], [-2], [1, 1, 0, 0], [0, 0, 1, 0], [-2]])

    def test_a_reading_of_another_part_is_none(self):
        self.assertEqual(ask(self.GRAMMAR, edit(0, 0, [1, 2]), TREE)[1:], [[0, 0, 0], [-2]])


class EditRefused(unittest.TestCase):
    def refused(self, answer, wrong, size=3):
        """The call is answered so, and nothing that is asked behind it is answered otherwise."""
        ahead = [ANY_TEXT, edit(0, 0, [1, 2]), edit(0, 0, [3] * (size - 2)), edit(0, 0, []), UNDO]
        behind = [TREE, REDO, UNDO, UNDO, REDO, edit(1, 1, [5]), TREE, UNDO, UNDO, UNDO, UNDO]
        given = ask(*ahead, wrong, *behind)
        self.assertEqual(given[5], [answer])
        self.assertEqual(given[:5] + given[6:], ask(*ahead, *behind))

    def test_there_are_not_so_many(self):
        for i, n in ((4, 0), (3, 1), (2, 2), (0, 4), (HIGHEST, 0), (0, HIGHEST), (1, HIGHEST), (HIGHEST, HIGHEST)):
            self.refused(-1, edit(i, n, []))
            self.refused(-1, edit(i, n, [1]))

    def test_up_to_the_end_there_are(self):
        for i, n in ((3, 0), (2, 1), (0, 3)):
            self.assertGreaterEqual(last(ANY_TEXT, edit(0, 0, [1, 2, 3]), edit(i, n, []))[0], 0)

    def test_a_word_that_the_grammar_has_not(self):
        self.refused(-1, edit(0, 0, [WORDS]))
        self.refused(-1, edit(0, 0, [64]))
        self.refused(-1, edit(0, 0, [HIGHEST]))
        self.refused(-1, edit(1, 1, [0, 1, WORDS]))
        self.refused(-1, edit(1, 1, [WORDS, 1, 0]))
        self.assertGreater(last(ANY_TEXT, edit(0, 0, [WORDS - 1]))[0], 0)

    def test_more_than_24(self):
        self.refused(-5, edit(0, 0, [0] * 22))
        self.refused(-5, edit(3, 0, [0] * 22))
        self.refused(-5, edit(0, 1, [0] * 23))
        self.refused(-5, edit(0, 3, [0] * 25))
        self.refused(-5, edit(0, 0, [0] * 1024))
        self.refused(-5, edit(24, 0, [0]), size=24)
        self.refused(-5, edit(0, 24, [0] * 25), size=24)

    def test_24_at_once_and_one_by_one(self):
        self.assertEqual(last(ANY_TEXT, edit(0, 0, [0] * 24))[0], 48)
        self.assertEqual(last(ANY_TEXT, edit(0, 0, [0] * 25)), [-5])
        self.assertEqual(last(ANY_TEXT, *[edit(k, 0, [0]) for k in range(24)])[0], 48)
        self.assertEqual(last(ANY_TEXT, *[edit(k, 0, [0]) for k in range(24)], edit(3, 0, [0])), [-5])
        self.assertEqual(last(ANY_TEXT, edit(0, 0, [0] * 24), edit(5, 2, [1, 1]))[0], 48)
        self.assertEqual(text_behind(edit(0, 0, [0] * 24), edit(0, 24, [1] * 24)), [1] * 24)

    def test_the_one_told_first(self):
        self.refused(-1, edit(4, 0, [0] * 25))
        self.refused(-1, edit(0, 4, [0] * 25))
        self.refused(-1, edit(0, 0, [0] * 24 + [WORDS]))


class Moves(unittest.TestCase):
    START = edit(0, 0, [1, 2, 3, 4, 5])

    def test_to_the_right(self):
        self.assertEqual(text_behind(self.START, move(0, 1, 1)), [2, 1, 3, 4, 5])
        self.assertEqual(text_behind(self.START, move(0, 2, 3)), [3, 4, 5, 1, 2])
        self.assertEqual(text_behind(self.START, move(1, 2, 2)), [1, 4, 2, 3, 5])

    def test_to_the_left(self):
        self.assertEqual(text_behind(self.START, move(4, 1, 0)), [5, 1, 2, 3, 4])
        self.assertEqual(text_behind(self.START, move(2, 3, 1)), [1, 3, 4, 5, 2])

    def test_to_where_it_was(self):
        given = ask(ANY_TEXT, self.START, move(1, 2, 1), TREE, UNDO, TREE, UNDO, UNDO)
        self.assertEqual(given[2], [10, 0, 0])
        self.assertEqual(given[3], given[5])
        self.assertEqual(given[4], [10, 0, 0])
        self.assertEqual([given[6][0], given[7]], [0, [-2]])

    def test_the_whole_text(self):
        self.assertEqual(last(ANY_TEXT, self.START, move(0, 5, 0)), [10, 0, 0])
        self.assertEqual(text_behind(self.START, move(0, 5, 0)), [1, 2, 3, 4, 5])

    def test_every_move(self):
        for i in range(6):
            for n in range(7):
                for to in range(6):
                    given = ask(ANY_TEXT, self.START, move(i, n, to), TREE)
                    if n == 0 or i + n > 5 or to + n > 5:
                        self.assertEqual(given[2], [-1])
                        continue
                    moved = list(range(i + 1, i + n + 1))
                    shown = words_of(given[3])
                    self.assertEqual(shown[to:to + n], moved)
                    self.assertEqual(shown[:to] + shown[to + n:], [w for w in range(1, 6) if w not in moved])

    def test_names_move_along(self):
        grammar = begin(4, 2, rules((0, [part(1), part(1)]), (1, [0, 1]), (1, [2, 3])))
        given = ask(grammar, edit(0, 0, [0, 1, 2, 3]), TREE, move(0, 2, 2), TREE, move(2, 2, 0), TREE)
        self.assertEqual(given[2], [3, 0, 1, 2, 64, 65, 0, 1, 66, 2, 3])
        self.assertEqual(given[3], [3, 1, 3, 1, 0])
        self.assertEqual(given[4], [3, 3, 2, 1, 64, 66, 2, 3, 65, 0, 1])
        self.assertEqual(given[5:], [[3, 1, 0, 1, 3], given[2]])

    def test_refused(self):
        ahead = [ANY_TEXT, self.START, edit(0, 0, []), UNDO]
        behind = [TREE, REDO, UNDO, UNDO, UNDO, REDO, edit(0, 0, [6]), TREE]
        wrong = [(0, 0, 0), (2, 0, 1), (6, 0, 0), (5, 1, 0), (4, 2, 0), (0, 6, 0), (0, 1, 5), (0, 2, 4), (0, 5, 1)]
        wrong += [(HIGHEST, 1, 0), (0, HIGHEST, 0), (0, 1, HIGHEST), (HIGHEST, HIGHEST, HIGHEST), (HIGHEST, 0, 0)]
        for i, n, to in wrong:
            given = ask(*ahead, move(i, n, to), *behind)
            self.assertEqual(given[4], [-1], (i, n, to))
            self.assertEqual(given[:4] + given[5:], ask(*ahead, *behind))

    def test_refused_with_no_words(self):
        self.assertEqual(ask(ANY_TEXT, move(0, 0, 0), move(0, 1, 0), UNDO)[1:], [[-1], [-1], [-2]])


if __name__ == "__main__":
    unittest.main()
