"""The first reading of a text."""

from regrown.grammar import FIRST_PART

# In a tree's list a rule is this and its number; all below are words.
FIRST_RULE = 64


class PlacedRule:
    """A rule where it stands in a tree, over the stretch from start to end.

    around is the place of the rule right around it among the tree's rules, or None for the whole.
    """

    def __init__(self, rule, start, end, around):
        self.rule = rule
        self.start = start
        self.end = end
        self.around = around


class Reading:
    """A tree as its list, and its rules in that list's order; both are empty if there's no tree."""

    def __init__(self):
        self.numbers = []
        self.placed = []


class Chart:
    """Which signs, and which ends of rules, say which stretches of a text.

    ends[i][sign] are the ends of the sign's stretches from i on, the least first. reach[i][place] has
    the bit of j set if the signs from that place to its rule's end say the stretch from i to j.
    """

    def __init__(self, grammar, words):
        self.grammar = grammar
        self.bits = bits_up_to(len(words))
        self.ends = [{} for bit in self.bits]
        self.reach = [[] for bit in self.bits]
        self.fill_reach(len(words))
        # From the right, as what begins at a word rests on what begins behind it.
        for start in range(len(words) - 1, -1, -1):
            self.fill_ends(start, words[start])
            self.fill_reach(start)

    def fill_ends(self, start, word):
        """Find each sign's ends from start: the word's first, then those of what it begins, and so on."""
        found = {word: self.bits[start + 1]}
        waiting = [(word, start + 1)]
        while waiting:
            step = waiting.pop()
            row = self.reach[step[1]]
            for rule in self.grammar.rules_begun_by.get(step[0], []):
                part = self.grammar.rules[rule][0]
                known = found.get(part, 0)
                fresh = row[self.grammar.first_place[rule] + 1] & ~known
                if fresh:
                    found[part] = known | fresh
                    waiting.extend([(part, further) for further in self.positions(fresh)])
        for sign in found:
            self.ends[start][sign] = self.positions(found[sign])

    def fill_reach(self, start):
        ends = self.ends[start]
        row = self.reach[start]
        for place, sign in enumerate(self.grammar.sign_at):
            mask = 0
            if sign is None:
                mask = self.bits[start]
            elif sign in ends:
                for end in ends[sign]:
                    mask = mask | self.reach[end][place + 1]
            row.append(mask)

    def positions(self, mask):
        return [position for position, bit in enumerate(self.bits) if mask & bit]

    def says(self, place, start, end):
        """Whether the signs from the place on say the stretch."""
        return self.reach[start][place] & self.bits[end] != 0

    def first_rule(self, part, start, end):
        """The first rule of the part that says the stretch, or None."""
        for rule in self.grammar.rules_of.get(part, []):
            if self.says(self.grammar.first_place[rule], start, end):
                return rule
        return None

    def pieces(self, rule, start, end):
        """Each sign of the rule with its stretch, every stretch ending as early as the rest allows."""
        found = []
        place = self.grammar.first_place[rule]
        for sign in self.grammar.rules[rule][1]:
            place = place + 1
            for middle in self.ends[start][sign]:
                if self.says(place, middle, end):
                    found.append((sign, start, middle))
                    start = middle
                    break
        return found


def bits_up_to(size):
    """One bit for each position in a text of this size, its end among them."""
    bits = [1]
    for position in range(size):
        bits.append(bits[position] * 2)
    return bits


def first_reading(grammar, words):
    """The first reading of the words; an empty one if there's none."""
    reading = Reading()
    chart = Chart(grammar, words)
    if chart.first_rule(FIRST_PART, 0, len(words)) is None:
        return reading
    # A stack of what is still to be read, the leftmost on top: trees are too deep for nested calls.
    waiting = [(FIRST_PART, 0, len(words), None)]
    while waiting:
        piece = waiting.pop()
        if piece[0] < FIRST_PART:
            reading.numbers.append(piece[0])
        else:
            rule = chart.first_rule(piece[0], piece[1], piece[2])
            place = len(reading.placed)
            reading.numbers.append(FIRST_RULE + rule)
            reading.placed.append(PlacedRule(rule, piece[1], piece[2], piece[3]))
            for sign, start, end in reversed(chart.pieces(rule, piece[1], piece[2])):
                waiting.append((sign, start, end, place))
    return reading
