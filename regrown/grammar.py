"""Grammars: the rules that a list of numbers tells, and whether they are sound."""

# Among signs a part is this and its own number; all below are words.
FIRST_PART = 64
MOST_RULES = 64
MOST_SIGNS = 8


class Grammar:
    """Rules over words and parts, laid out as the reader looks them up.

    Each rule is a tuple: its part, as the sign that it is in other rules, and the tuple of its signs.
    The places of all rules are numbered together: one ahead of each sign, and one behind the last.
    """

    def __init__(self, word_count, rules):
        self.word_count = word_count
        self.rules = rules
        # At each place the sign that comes there, and None behind a rule's last.
        self.sign_at = []
        self.first_place = []
        self.rules_of = {}
        self.rules_begun_by = {}
        for number, rule in enumerate(rules):
            self.lay_out(number, rule[0], rule[1])

    def lay_out(self, number, part, signs):
        self.first_place.append(len(self.sign_at))
        self.sign_at.extend(signs)
        self.sign_at.append(None)
        self.rules_of.setdefault(part, []).append(number)
        self.rules_begun_by.setdefault(signs[0], []).append(number)


def is_sign(number, word_count, part_count):
    return number < word_count or FIRST_PART <= number < FIRST_PART + part_count


def told_rule(word_count, part_count, numbers, start):
    """The rule that the numbers tell from start on, or None."""
    if start + 2 > len(numbers):
        return None
    part = numbers[start]
    count = numbers[start + 1]
    # What a rule is of is never a word, so here a part is told by its own number alone.
    if part >= part_count or not 1 <= count <= MOST_SIGNS:
        return None
    signs = tuple(numbers[start + 2:start + 2 + count])
    if len(signs) < count or not all([is_sign(sign, word_count, part_count) for sign in signs]):
        return None
    return (FIRST_PART + part, signs)


def told_rules(word_count, part_count, numbers):
    """All rules that the numbers tell, or None if they don't tell those of such a grammar."""
    rules = []
    told = {}
    start = 0
    while start < len(numbers):
        rule = told_rule(word_count, part_count, numbers, start)
        if rule is None or rule in told or len(rules) == MOST_RULES:
            return None
        told[rule] = True
        rules.append(rule)
        start = start + 2 + len(rule[1])
    return rules


def is_sound(rules):
    """Whether no part comes to itself alone."""
    steps = [(part, signs[0]) for part, signs in rules if len(signs) == 1 and signs[0] >= FIRST_PART]
    while steps:
        # A step into a part from which no step goes on lies on no way round.
        origins = [part for part, sign in steps]
        kept = [step for step in steps if step[1] in origins]
        if len(kept) == len(steps):
            return False
        steps = kept
    return True
