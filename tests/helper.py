"""Calls as lists of numbers, answers taken apart, and a slow house to compare with.

The slow house compares whole trees and keeps whole histories; it shares no code with the program.
"""

from regrown.house import answers

HIGHEST = 2 ** 64 - 1


def part(number):
    """The part as a sign."""
    return 64 + number


def rules(*told):
    """One list of rules, each told as (number of its part, signs)."""
    numbers = []
    for number, signs in told:
        numbers += [number, len(signs)] + list(signs)
    return numbers


def begin(words, parts, numbers):
    return [1, words, parts, len(numbers)] + list(numbers)


def edit(i, n, words):
    return [2, i, n, len(words)] + list(words)


def move(i, n, to):
    return [3, i, n, to]


def node(name):
    return [8, name]


def at(i, j):
    return [9, i, j]


def mark(name, v):
    return [10, name, v]


UNDO = [4]
REDO = [5]
TREE = [6]
WORDS = [7]
MARKS = [11]


def ask(*calls):
    """The answers to these calls, one list for each."""
    given = answers([number for call in calls for number in call])
    taken = []
    place = 0
    while place < len(given):
        taken.append(given[place + 1:place + 1 + given[place]])
        place += 1 + given[place]
    if len(taken) != len(calls):
        raise ValueError(f"{len(calls)} calls, {len(taken)} answers")
    return taken


def last(*calls):
    return ask(*calls)[-1]


def tree_list(answer):
    """What a tree's answer tells behind the names."""
    return answer[1 + answer[0]:]


def tree_names(answer):
    return answer[1:1 + answer[0]]


def all_trees(told, sign, text):
    """Every tree of the sign that says the text, each with what it is ordered by, in no order."""
    if sign < 64:
        return [((), [sign], [])] if text == [sign] else []
    found = []
    for number, (of_part, signs) in enumerate(told):
        if part(of_part) == sign:
            for order, listed, stood in all_rows(told, list(signs), text):
                found.append(((number,) + order, [64 + number] + listed, [(number, 0, len(text))] + stood))
    return found


def all_rows(told, signs, text):
    """Every way for the signs to say the text, one behind another."""
    if not signs:
        return [((), [], [])] if not text else []
    found = []
    for end in range(1, len(text) - len(signs) + 2):
        behind = all_rows(told, signs[1:], text[end:])
        if not behind:
            continue
        for order, listed, stood in all_trees(told, signs[0], text[:end]):
            for order_behind, listed_behind, stood_behind in behind:
                moved = [(rule, first + end, size) for rule, first, size in stood_behind]
                found.append(((end, order) + order_behind, listed + listed_behind, stood + moved))
    return found


def first_tree(told, text):
    """The first of all trees of part 0 that say the text, as all_trees has it, or None.

    Of each sign and stretch only the first tree is built, so longer texts can be read.
    """
    known = {}

    def of_sign(sign, start, end):
        if sign < 64:
            return ((), [sign], []) if text[start:end] == [sign] else None
        if (sign, start, end) not in known:
            found = []
            for number, (of_part, signs) in enumerate(told):
                row = of_row(number, 0, start, end) if part(of_part) == sign else None
                if row is not None:
                    stood = [(number, start, end - start)] + row[2]
                    found.append(((number,) + row[0], [64 + number] + row[1], stood))
            known[sign, start, end] = min(found, default=None)
        return known[sign, start, end]

    def of_row(number, place, start, end):
        signs = told[number][1]
        if place == len(signs):
            return ((), [], []) if start == end else None
        if (number, place, start, end) not in known:
            found = []
            for middle in range(start + 1, end - len(signs) + place + 2):
                behind = of_row(number, place + 1, middle, end)
                ahead = of_sign(signs[place], start, middle) if behind is not None else None
                if ahead is not None:
                    order = (middle - start, ahead[0]) + behind[0]
                    found.append((order, ahead[1] + behind[1], ahead[2] + behind[2]))
            known[number, place, start, end] = min(found, default=None)
        return known[number, place, start, end]

    return of_sign(64, 0, len(text))


def places(told, listed):
    """Of each rule in a tree's list: its number, its first word, how many words, and the place of the one around it.

    The place of the one around the whole is None.
    """
    found = []
    # The rules that are not at their end: each with its place, and how many of its trees are still to come.
    begun = []
    word = 0
    for number in listed:
        if begun:
            begun[-1][1] -= 1
        if number >= 64:
            found.append([number - 64, word, 0, begun[-1][0] if begun else None])
            begun.append([len(found) - 1, len(told[number - 64][1])])
        else:
            word += 1
        while begun and begun[-1][1] == 0:
            ended = begun.pop()[0]
            found[ended][2] = word - found[ended][1]
    return [tuple(place) for place in found]


def some_rules(source, words, parts):
    """Different rules, none of them a step from a part to the same or an earlier one: so they're sound."""
    told = []
    for count in range(source.randint(2, 9)):
        of_part = source.randrange(parts)
        signs = []
        for sign in range(source.choice((1, 1, 2, 2, 3, 4))):
            signs.append(source.choice((source.randrange(words), part(source.randrange(parts)))))
        step = len(signs) == 1 and signs[0] >= 64 and signs[0] <= part(of_part)
        if not step and (of_part, signs) not in told:
            told.append((of_part, signs))
    return told


def some_change(source, words, size):
    """A change of a text of about this size, or undo, redo or tree; some are refused."""
    i = source.randint(0, size)
    n = source.randint(0, max(0, size - i) + source.choice((0, 0, 0, 1)))
    choice = source.randrange(10)
    if choice < 4:
        new = [source.randrange(words + source.choice((0, 0, 0, 0, 1))) for count in range(source.randint(0, 3))]
        return edit(i, n if size > 4 else n // 2, new)
    if choice < 6:
        return move(i, n, source.randint(0, max(0, size - n)))
    return (UNDO, UNDO, REDO, TREE)[choice - 6]


def some_grammar(source):
    """Words, parts and rules of a grammar that reads most texts, many of them in several ways."""
    words = source.randint(1, 3)
    parts = source.randint(2, 4)
    told = some_rules(source, words, parts)
    # The last word isn't always in a rule, so there are texts without a reading.
    reads = [(0, [part(1), part(0)]), (0, [part(1)])] + [(1, [word]) for word in range(source.randint(1, words))]
    return words, parts, told + [rule for rule in reads if rule not in told]


def some_call(source, slow):
    """A call of any kind but begin on a house that is as the slow one; some are refused."""
    names = slow.tree_of(slow.text())[0]
    name = source.choice([source.randint(0, len(slow.known)), source.choice(names or [0]), source.choice(names or [0])])
    size = len(slow.text())
    choice = source.randrange(14)
    if choice < 6:
        return some_change(source, slow.word_count, size)
    if choice < 8:
        return mark(name, source.choice((0, 1, source.randint(1, 10 ** 18), 10 ** 18 + source.randint(0, 1))))
    if choice < 10:
        return node(name)
    if choice < 12:
        i = source.randint(0, size)
        return at(i, source.randint(i, size + 1))
    return (WORDS, MARKS)[choice - 12]


class SlowHouse:
    """Answers every call, but for a begin that is to be refused."""

    def __init__(self, words=1, told=()):
        self.settle(words, told)

    def settle(self, words, told):
        self.word_count = words
        self.told = told
        self.steps = [[]]
        self.now = 0
        self.next_word = 0
        self.known = {}
        self.marked = []
        self.firsts = {}

    def text(self):
        return self.steps[self.now]

    def tree_of(self, text):
        """The names of the tree's rules, and its list; both are empty if there's none."""
        words = tuple(word for name, word in text)
        if words not in self.firsts:
            self.firsts[words] = first_tree(self.told, list(words)) or ((), [], [])
        order, listed, stood = self.firsts[words]
        names = []
        for rule, first, size in stood:
            over = (rule, tuple(name for name, word in text[first:first + size]))
            if over not in self.known:
                self.known[over] = len(self.known)
            names.append(self.known[over])
        return names, listed

    def named_places(self):
        """Of each rule in the tree its name, and what places tells, with a name as the last."""
        names, listed = self.tree_of(self.text())
        found = []
        for name, (rule, first, size, around) in zip(names, places(self.told, listed), strict=True):
            found.append((name, rule, first, size, None if around is None else names[around]))
        return found

    def turned(self, before):
        old = self.tree_of(before)[0]
        new = self.tree_of(self.text())[0]
        came = sorted(name for name in new if name not in old)
        went = sorted(name for name in old if name not in new)
        return [len(new), len(came)] + came + [len(went)] + went

    def change(self, text):
        before = self.text()
        self.steps = self.steps[:self.now + 1] + [text]
        self.steps = self.steps[-65:]
        self.now = len(self.steps) - 1
        return self.turned(before)

    def begin(self, words, parts, numbers):
        told = []
        while numbers:
            told.append((numbers[0], numbers[2:2 + numbers[1]]))
            numbers = numbers[2 + numbers[1]:]
        self.settle(words, told)
        return [0]

    def edit(self, i, n, words):
        text = self.text()
        if i + n > len(text) or [word for word in words if word >= self.word_count]:
            return [-1]
        if len(text) - n + len(words) > 24:
            return [-5]
        new = []
        for word in words:
            new.append((self.next_word, word))
            self.next_word += 1
        return self.change([text[k] for k in range(len(text)) if k < i] + new + text[i + n:])

    def move(self, i, n, to):
        text = list(self.text())
        if n == 0 or max(i, to) + n > len(text):
            return [-1]
        taken = [text.pop(i) for count in range(n)]
        for word in reversed(taken):
            text.insert(to, word)
        return self.change(text)

    def go(self, way):
        if not 0 <= self.now + way < len(self.steps):
            return [-2]
        before = self.text()
        self.now += way
        return self.turned(before)

    def tree(self):
        names, listed = self.tree_of(self.text())
        return [len(names)] + names + listed if names else [-2]

    def words(self):
        return [len(self.text())] + [number for word in self.text() for number in word]

    def node(self, asked):
        for name, rule, first, size, around in self.named_places():
            if name == asked:
                return [rule, first, size, 0 if around is None else around + 1]
        return [-3] if asked in self.known.values() else [-2]

    def at(self, i, j):
        if i >= j or j > len(self.text()):
            return [-1]
        over = [place for place in self.named_places() if set(range(i, j)) <= set(range(place[2], place[2] + place[3]))]
        # The innermost is the one that's around no other.
        return [place[0] for place in over if place[0] not in [other[4] for other in over]] or [-2]

    def mark(self, name, v):
        if v > 10 ** 18:
            return [-1]
        if self.node(name)[0] < 0:
            return self.node(name)
        others = [pair for pair in self.marked if pair[0] != name]
        if v and len(others) >= 64:
            return [-5]
        self.marked = others + [(name, v)] if v else others
        return [len(self.marked)]

    def marks(self):
        awake = []
        for name, rule, first, size, around in self.named_places():
            awake += [(name, v, first, size) for marked, v in self.marked if marked == name]
        return [len(awake), len(self.marked) - len(awake)] + [number for told in awake for number in told]

    def answer(self, call):
        if call[0] == 1:
            return self.begin(call[1], call[2], call[4:])
        if call[0] == 2:
            return self.edit(call[1], call[2], call[4:])
        if call[0] in (4, 5):
            return self.go(-1 if call[0] == 4 else 1)
        asked = {3: self.move, 6: self.tree, 7: self.words, 8: self.node, 9: self.at, 10: self.mark, 11: self.marks}
        return asked[call[0]](*call[1:])
