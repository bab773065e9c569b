"""Calls 4 and 5, undo and redo (promise 3)."""

import unittest

from tests.helper import REDO, TREE, UNDO, ask, begin, edit, last, move, part, rules, tree_list

GRAMMAR = begin(3, 2, rules((0, [part(1)]), (0, [part(1), part(0)]), (1, [0]), (1, [1]), (1, [0, 1])))


def turned(answer):
    """The answer of the change that takes this one back, but for how many rules the tree has."""
    came = answer[2:2 + answer[1]]
    went = answer[3 + answer[1]:]
    return [len(went)] + went + [len(came)] + came


class RightBehindAChange(unittest.TestCase):
    CHANGES = (edit(0, 0, [1]), edit(2, 1, []), edit(1, 2, [0, 0, 1]), edit(0, 4, []), edit(3, 0, [2]), edit(1, 0, []),
               move(0, 1, 3), move(2, 2, 0), move(1, 2, 1), move(0, 4, 0))

    def test_undo_and_redo(self):
        for change in self.CHANGES:
            given = ask(GRAMMAR, edit(0, 0, [0, 1, 1, 0]), TREE, change, TREE, UNDO, TREE, REDO, TREE, UNDO, TREE)
            before, done, after = given[2:5]
            self.assertEqual(given[5], before[:1] + turned(done))
            self.assertEqual(given[6], before)
            self.assertEqual(given[7], done)
            self.assertEqual(given[8], after)
            self.assertEqual(given[9:], given[5:7])

    def test_the_text_is_back_where_there_is_no_tree(self):
        # Taking word 2 out again shows what the text is.
        for change in (edit(0, 3, []), edit(1, 1, [0]), move(0, 1, 2), edit(3, 0, [1])):
            given = ask(GRAMMAR, edit(0, 0, [0, 1]), TREE, edit(1, 0, [2]), change, UNDO, TREE, edit(1, 1, []), TREE)
            self.assertEqual(given[5][0], 0)
            self.assertEqual(given[6], [-2])
            self.assertEqual(given[8], given[2])


class Several(unittest.TestCase):
    def test_in_a_row(self):
        changes = [edit(0, 0, [0]), edit(1, 0, [1, 1]), move(0, 1, 2)]
        changes += [edit(1, 1, [0, 1]), move(1, 2, 0), edit(0, 1, [])]
        calls = [GRAMMAR, TREE]
        for change in changes:
            calls += [change, TREE]
        forth = ask(*calls)
        trees = forth[1::2]
        done = forth[2::2]
        for turns in (1, 2):
            back = [call for change in changes for call in (UNDO, TREE)]
            again = [call for change in changes for call in (REDO, TREE)]
            given = ask(*calls, *(back + again) * turns, UNDO)[len(calls):]
            self.assertEqual(given[1:12:2], trees[-2::-1])
            self.assertEqual([answer[1:] for answer in given[0:12:2]], [turned(answer) for answer in reversed(done)])
            self.assertEqual(given[13:24:2], trees[1:])
            self.assertEqual(given[12:24:2], done)
            self.assertEqual(given[-1], given[0])

    def test_back_and_forth(self):
        given = ask(GRAMMAR, edit(0, 0, [0]), edit(1, 0, [1]), edit(2, 0, [0]), UNDO, UNDO, REDO, TREE, UNDO, UNDO,
                    REDO, REDO, REDO, REDO, TREE)
        self.assertEqual(tree_list(given[7]), [64, 68, 0, 1])
        self.assertEqual([answer[0] for answer in given[8:13]], [2, 0, 2, 2, 6])
        self.assertEqual(given[13], [-2])
        self.assertEqual(tree_list(given[14]), [65, 66, 0, 65, 67, 1, 64, 66, 0])

    def test_undo_goes_on_behind_a_change_that_came_after_an_undo(self):
        given = ask(GRAMMAR, edit(0, 0, [0]), edit(0, 0, [1]), UNDO, edit(1, 0, [0]), UNDO, TREE, UNDO, TREE, UNDO)
        self.assertEqual(given[6], [2, 0, 1, 64, 66, 0])
        self.assertEqual(given[7:], [[0, 0, 2, 0, 1], [-2], [-2]])


class ThereIsNone(unittest.TestCase):
    def test_at_the_beginning(self):
        self.assertEqual(ask(GRAMMAR, UNDO, REDO)[1:], [[-2], [-2]])

    def test_behind_the_last_undo(self):
        given = ask(GRAMMAR, edit(0, 0, [0]), UNDO, UNDO, TREE, REDO, REDO, TREE)
        self.assertEqual(given[3:], [[-2], [-2], [2, 2, 0, 1, 0], [-2], [2, 0, 1, 64, 66, 0]])

    def test_refused_changes_are_none(self):
        given = ask(GRAMMAR, edit(1, 0, [0]), edit(0, 0, [3]), edit(0, 0, [0] * 25), move(0, 1, 0), UNDO)
        self.assertEqual(given[1:], [[-1], [-1], [-5], [-1], [-2]])

    def test_a_change_leaves_nothing_to_redo(self):
        for change in (edit(0, 0, [1]), edit(0, 1, []), edit(0, 0, []), move(0, 1, 1), move(0, 1, 0)):
            given = ask(GRAMMAR, edit(0, 0, [0, 0]), edit(0, 0, [1]), edit(0, 0, [1]), UNDO, UNDO, change, REDO, UNDO,
                        REDO, REDO)
            self.assertEqual(given[7], [-2])
            self.assertEqual(given[9:], [given[6], [-2]])

    def test_a_refused_change_leaves_what_there_is_to_redo(self):
        for change in (edit(9, 0, [1]), edit(0, 0, [3]), edit(0, 0, [0] * 25), move(0, 0, 0), move(0, 1, 9)):
            given = ask(GRAMMAR, edit(0, 0, [0, 0]), edit(0, 0, [1]), UNDO, change, REDO, REDO)
            self.assertEqual(given[5:], [given[2], [-2]])

    def test_tree_leaves_what_there_is_to_redo(self):
        given = ask(GRAMMAR, edit(0, 0, [0, 0]), UNDO, TREE, REDO)
        self.assertEqual(given[4], given[1])


class HowManyAreKept(unittest.TestCase):
    # These lists have more than 120 calls: in 120 no undo comes as far back as the 65th change.

    def changes(self, count):
        """So many edits; behind each the text is one new word."""
        return [edit(0, min(k, 1), [k % 2]) for k in range(count)]

    def test_64_and_no_more(self):
        for count in (0, 1, 59, 63, 64, 65, 66, 90, 128, 129):
            given = ask(GRAMMAR, *self.changes(count), *[UNDO] * 65)[1 + count:]
            kept = min(count, 64)
            self.assertNotIn([-2], given[:kept], count)
            self.assertEqual(given[kept:], [[-2]] * (65 - kept), count)

    def test_the_last_ones_are_kept(self):
        for count in (64, 65, 66, 100):
            given = ask(GRAMMAR, *self.changes(count), *[UNDO] * 64, TREE)
            self.assertEqual(given[-1], last(GRAMMAR, *self.changes(count - 64), TREE), count)

    def test_all_64_are_redone(self):
        for count in (64, 65, 100):
            given = ask(GRAMMAR, *self.changes(count), TREE, *[UNDO] * 65, *[REDO] * 64, TREE, REDO, *[UNDO] * 65)
            there = given[1 + count:]
            self.assertNotIn([-2], there[66:130], count)
            self.assertEqual(there[66:130], given[1 + count - 64:1 + count], count)
            self.assertEqual(there[130:132], [there[0], [-2]], count)
            self.assertEqual(there[132:], there[1:66], count)

    def test_undone_ones_make_room(self):
        given = ask(GRAMMAR, *self.changes(64), UNDO, UNDO, edit(0, 0, []), edit(0, 0, []), *[UNDO] * 65)
        self.assertEqual([given[-2][0], given[-1]], [0, [-2]])

    def test_as_many_as_120_calls_show(self):
        calls = [GRAMMAR] + self.changes(59) + [UNDO] * 60
        given = ask(*calls)
        self.assertEqual(len(given), 120)
        self.assertEqual([given[-2][0], given[-1]], [0, [-2]])


if __name__ == "__main__":
    unittest.main()
