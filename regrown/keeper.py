"""What is kept from call to call: grammar, text, tree, names, marks, and the steps to undo and redo."""

from regrown.grammar import Grammar, is_sound, told_rules
from regrown.reading import Reading, first_reading

MOST_GRAMMAR_WORDS = 64
MOST_PARTS = 32
MOST_WORDS = 24
MOST_STEPS = 64
MOST_MARKS = 64
HIGHEST_MARK = 1000000000000000000


class State:
    """A text and its tree. It isn't changed once it's made, so undo can bring back the very same.

    The text is a list of words, each a name and which word it is. The names are those of the reading's
    rules, in the same order; both are empty if there's no tree.
    """

    def __init__(self, text, reading, names):
        self.text = text
        self.reading = reading
        self.names = names

    def named_rules(self):
        """Each rule's name and the rule where it stands, in the order of the tree's list."""
        return list(zip(self.names, self.reading.placed))


class House:
    """One house; each call's method gives back the numbers that are answered."""

    def __init__(self):
        self.settle(Grammar(1, []))

    def settle(self, grammar):
        self.grammar = grammar
        self.state = State([], Reading(), [])
        self.named_words = 0
        self.rule_names = {}
        # By names of rules, in the tree or not: so undo has nothing to do with them.
        self.mark_of = {}
        self.past = []
        self.future = []

    def begin(self, word_count, part_count, numbers):
        if not 1 <= word_count <= MOST_GRAMMAR_WORDS or not 1 <= part_count <= MOST_PARTS:
            return [-1]
        rules = told_rules(word_count, part_count, numbers)
        if rules is None:
            return [-3]
        if not is_sound(rules):
            return [-4]
        self.settle(Grammar(word_count, rules))
        return [0]

    def edit(self, i, n, words):
        text = self.state.text
        if i + n > len(text) or any([word >= self.grammar.word_count for word in words]):
            return [-1]
        if len(text) - n + len(words) > MOST_WORDS:
            return [-5]
        fresh = [(self.named_words + k, word) for k, word in enumerate(words)]
        self.named_words = self.named_words + len(words)
        return self.change(text[:i] + fresh + text[i + n:])

    def move(self, i, n, to):
        text = self.state.text
        if n == 0 or i + n > len(text) or to + n > len(text):
            return [-1]
        rest = text[:i] + text[i + n:]
        return self.change(rest[:to] + text[i:i + n] + rest[to:])

    def undo(self):
        if not self.past:
            return [-2]
        self.future.append(self.state)
        return self.turn_to(self.past.pop())

    def redo(self):
        if not self.future:
            return [-2]
        self.past.append(self.state)
        return self.turn_to(self.future.pop())

    def tree(self):
        state = self.state
        if not state.names:
            return [-2]
        return [len(state.names)] + state.names + state.reading.numbers

    def words(self):
        answered = [len(self.state.text)]
        for name, word in self.state.text:
            answered.extend([name, word])
        return answered

    def node(self, name):
        missing = self.why_missing(name)
        if missing is not None:
            return [missing]
        names = self.state.names
        placed = self.state.reading.placed[names.index(name)]
        around = 0 if placed.around is None else names[placed.around] + 1
        return [placed.rule, placed.start, placed.end - placed.start, around]

    def at(self, i, j):
        if not i < j <= len(self.state.text):
            return [-1]
        if not self.state.names:
            return [-2]
        over = [name for name, placed in self.state.named_rules() if placed.start <= i and j <= placed.end]
        # Of the rules over a stretch each stands within the one before it.
        return [over[-1]]

    def mark(self, name, number):
        if number > HIGHEST_MARK:
            return [-1]
        missing = self.why_missing(name)
        if missing is not None:
            return [missing]
        if number == 0:
            self.mark_of.pop(name, None)
        elif name not in self.mark_of and len(self.mark_of) == MOST_MARKS:
            return [-5]
        else:
            self.mark_of[name] = number
        return [len(self.mark_of)]

    def marks(self):
        awake = [pair for pair in self.state.named_rules() if pair[0] in self.mark_of]
        answered = [len(awake), len(self.mark_of) - len(awake)]
        for name, placed in awake:
            answered.extend([name, self.mark_of[name], placed.start, placed.end - placed.start])
        return answered

    def why_missing(self, name):
        """The refusal if the tree has no rule of this name, else None."""
        if name >= len(self.rule_names):
            return -2
        if name not in self.state.names:
            return -3
        return None

    def change(self, text):
        self.past.append(self.state)
        self.past = self.past[-MOST_STEPS:]
        self.future = []
        return self.turn_to(self.read(text))

    def read(self, text):
        reading = first_reading(self.grammar, [word for name, word in text])
        names = [self.rule_name(placed.rule, text[placed.start:placed.end]) for placed in reading.placed]
        return State(text, reading, names)

    def rule_name(self, rule, stretch):
        """The rule's name over these words: the one that it ever had there, or else the next."""
        key = (rule, tuple([name for name, word in stretch]))
        return self.rule_names.setdefault(key, len(self.rule_names))

    def turn_to(self, state):
        """Make this the state, and tell what came and what went."""
        came = sorted(set(state.names) - set(self.state.names))
        went = sorted(set(self.state.names) - set(state.names))
        self.state = state
        return [len(state.names), len(came)] + came + [len(went)] + went
