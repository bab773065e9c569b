"""Calls as lists of numbers, answers taken apart, and a slow house to compare with.

The slow house tries every tree there is and keeps whole histories; it shares no code with the program.
"""

from regrown.house import answers

HIGHEST = 2 ** 64 - 1


def part(number):
    """The part as a sign."""
    return 64 + number


def rules(*told):
    """One list of rules, each told as (number of its part, signs)."""
    numbers = []
    for number, signs in told:
        numbers += [number, len(signs)] + list(signs)
    return numbers


def begin(words, parts, numbers):
    return [1, words, parts, len(numbers)] + list(numbers)


def edit(i, n, words):
    return [2, i, n, len(words)] + list(words)


def move(i, n, to):
    return [3, i, n, to]


UNDO = [4]
REDO = [5]
TREE = [6]


def ask(*calls):
    """The answers to these calls, one list for each."""
    given = answers([number for call in calls for number in call])
    taken = []
    place = 0
    while place < len(given):
        taken.append(given[place + 1:place + 1 + given[place]])
        place += 1 + given[place]
    if len(taken) != len(calls):
        raise ValueError(f"{len(calls)} calls, {len(taken)} answers")
    return taken


def last(*calls):
    return ask(*calls)[-1]


def tree_list(answer):
    """What a tree's answer tells behind the names."""
    return answer[1 + answer[0]:]


def tree_names(answer):
    return answer[1:1 + answer[0]]


def all_trees(told, sign, text):
    """Every tree of the sign that says the text, each with what it is ordered by, in no order."""
    if sign < 64:
        return [((), [sign], [])] if text == [sign] else []
    found = []
    for number, (of_part, signs) in enumerate(told):
        if part(of_part) == sign:
            for order, listed, stood in all_rows(told, list(signs), text):
                found.append(((number,) + order, [64 + number] + listed, [(number, 0, len(text))] + stood))
    return found


def all_rows(told, signs, text):
    """Every way for the signs to say the text, one behind another."""
    if not signs:
        return [((), [], [])] if not text else []
    found = []
    for end in range(1, len(text) - len(signs) + 2):
        behind = all_rows(told, signs[1:], text[end:])
        if not behind:
            continue
        for order, listed, stood in all_trees(told, signs[0], text[:end]):
            for order_behind, listed_behind, stood_behind in behind:
                moved = [(rule, first + end, size) for rule, first, size in stood_behind]
                found.append(((end, order) + order_behind, listed + listed_behind, stood + moved))
    return found


class SlowHouse:
    """Answers edit, move, undo, redo and tree for a grammar that is in order."""

    def __init__(self, words, told):
        self.words = words
        self.told = told
        self.steps = [[]]
        self.now = 0
        self.next_word = 0
        self.known = []
        self.firsts = {}

    def text(self):
        return self.steps[self.now]

    def tree_of(self, text):
        words = tuple(word for name, word in text)
        if words not in self.firsts:
            self.firsts[words] = min(all_trees(self.told, 64, list(words)), default=((), [], []))
        order, listed, stood = self.firsts[words]
        names = []
        for rule, first, size in stood:
            over = (rule, [name for name, word in text[first:first + size]])
            if over not in self.known:
                self.known.append(over)
            names.append(self.known.index(over))
        return names, listed

    def turned(self, before):
        old = self.tree_of(before)[0]
        new = self.tree_of(self.text())[0]
        came = sorted(name for name in new if name not in old)
        went = sorted(name for name in old if name not in new)
        return [len(new), len(came)] + came + [len(went)] + went

    def change(self, text):
        before = self.text()
        self.steps = self.steps[:self.now + 1] + [text]
        self.steps = self.steps[-65:]
        self.now = len(self.steps) - 1
        return self.turned(before)

    def edit(self, i, n, words):
        text = self.text()
        if i + n > len(text) or [word for word in words if word >= self.words]:
            return [-1]
        if len(text) - n + len(words) > 24:
            return [-5]
        new = []
        for word in words:
            new.append((self.next_word, word))
            self.next_word += 1
        return self.change([text[k] for k in range(len(text)) if k < i] + new + text[i + n:])

    def move(self, i, n, to):
        text = list(self.text())
        if n == 0 or max(i, to) + n > len(text):
            return [-1]
        taken = [text.pop(i) for count in range(n)]
        for word in reversed(taken):
            text.insert(to, word)
        return self.change(text)

    def go(self, way):
        if not 0 <= self.now + way < len(self.steps):
            return [-2]
        before = self.text()
        self.now += way
        return self.turned(before)

    def tree(self):
        names, listed = self.tree_of(self.text())
        return [len(names)] + names + listed if names else [-2]

    def answer(self, call):
        if call[0] == 2:
            return self.edit(call[1], call[2], call[4:])
        if call[0] == 3:
            return self.move(call[1], call[2], call[3])
        if call[0] == 6:
            return self.tree()
        return self.go(-1 if call[0] == 4 else 1)
