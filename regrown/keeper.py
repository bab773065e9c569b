"""What is kept from call to call: grammar, text, tree, names, and the steps to undo and redo."""

from regrown.grammar import Grammar, is_sound, told_rules
from regrown.reading import first_reading

MOST_GRAMMAR_WORDS = 64
MOST_PARTS = 32
MOST_WORDS = 24
MOST_STEPS = 64


class State:
    """A text and its tree. It isn't changed once it's made, so undo can bring back the very same.

    The text is a list of words, each a name and which word it is. The tree is its list of numbers and
    its rules' names in that list's order; both are empty if there's none.
    """

    def __init__(self, text, numbers, names):
        self.text = text
        self.numbers = numbers
        self.names = names


class House:
    """One house; each call's method gives back the numbers that are answered."""

    def __init__(self):
        self.settle(Grammar(1, []))

    def settle(self, grammar):
        self.grammar = grammar
        self.state = State([], [], [])
        self.named_words = 0
        self.rule_names = {}
        self.past = []
        self.future = []

    def begin(self, word_count, part_count, numbers):
        if not 1 <= word_count <= MOST_GRAMMAR_WORDS or not 1 <= part_count <= MOST_PARTS:
            return [-1]
        rules = told_rules(word_count, part_count, numbers)
        if rules is None:
            return [-3]
        if not is_sound(rules):
            return [-4]
        self.settle(Grammar(word_count, rules))
        return [0]

    def edit(self, i, n, words):
        text = self.state.text
        if i + n > len(text) or any([word >= self.grammar.word_count for word in words]):
            return [-1]
        if len(text) - n + len(words) > MOST_WORDS:
            return [-5]
        fresh = [(self.named_words + k, word) for k, word in enumerate(words)]
        self.named_words = self.named_words + len(words)
        return self.change(text[:i] + fresh + text[i + n:])

    def move(self, i, n, to):
        text = self.state.text
        if n == 0 or i + n > len(text) or to + n > len(text):
            return [-1]
        rest = text[:i] + text[i + n:]
        return self.change(rest[:to] + text[i:i + n] + rest[to:])

    def undo(self):
        if not self.past:
            return [-2]
        self.future.append(self.state)
        return self.turn_to(self.past.pop())

    def redo(self):
        if not self.future:
            return [-2]
        self.past.append(self.state)
        return self.turn_to(self.future.pop())

    def tree(self):
        state = self.state
        if not state.names:
            return [-2]
        return [len(state.names)] + state.names + state.numbers

    def change(self, text):
        self.past.append(self.state)
        self.past = self.past[-MOST_STEPS:]
        self.future = []
        return self.turn_to(self.read(text))

    def read(self, text):
        reading = first_reading(self.grammar, [word for name, word in text])
        names = []
        for rule, start, end in reading.rules:
            names.append(self.rule_name(rule, text[start:end]))
        return State(text, reading.numbers, names)

    def rule_name(self, rule, stretch):
        """The rule's name over these words: the one that it ever had there, or else the next."""
        key = (rule, tuple([name for name, word in stretch]))
        return self.rule_names.setdefault(key, len(self.rule_names))

    def turn_to(self, state):
        """Make this the state, and tell what came and what went."""
        came = sorted(set(state.names) - set(self.state.names))
        went = sorted(set(self.state.names) - set(state.names))
        self.state = state
        return [len(state.names), len(came)] + came + [len(went)] + went
