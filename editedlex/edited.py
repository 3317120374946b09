"""The text that is being edited, with its rules and its tokens."""

from editedlex.expression import is_expression, matches_empty, nodes_of
from editedlex.matching import longest_matches
from editedlex.scanning import changed, tokens_of

MOST_RULES = 8
MOST_BYTES = 512


class EditedText:
    """Each call gives back the list of what it answers; a refusal is its number alone, and changes nothing.

    Where a call asks for tokens of a rule, that is the rule as it is told of a token: 0 for no rule.
    """

    def __init__(self):
        self.rules = []
        self.text = []
        self.tokens = []

    def add_rule(self, numbers):
        if len(self.text) > 0:
            return [-1]
        if len(self.rules) == MOST_RULES:
            return [-2]
        if not is_expression(numbers):
            return [-3]
        nodes = nodes_of(numbers)
        if matches_empty(nodes):
            return [-4]
        self.rules.append(nodes)
        return [len(self.rules) - 1]

    def longest_match(self, number, piece):
        if number >= len(self.rules):
            return [-2]
        if len(piece) > MOST_BYTES:
            return [-3]
        size = longest_matches(self.rules[number], piece)[0]
        # No rule matches the empty text, so a match of no bytes is none.
        if size == 0:
            return [-1]
        return [size]

    def edit(self, at, remove, piece):
        if at + remove > len(self.text):
            return [-1]
        if len(piece) > MOST_BYTES or len(self.text) - remove + len(piece) > MOST_BYTES:
            return [-2]
        before = self.tokens
        self.text = self.text[:at] + piece + self.text[at + remove:]
        self.tokens = tokens_of(self.text, self.rules)
        return [0] + changed(before, self.tokens)

    def counts(self):
        return [0, len(self.text), len(self.tokens), len(self.rules)]

    def token(self, number):
        if number >= len(self.tokens):
            return [-1]
        found = self.tokens[number]
        return [0, found.begin, len(found.piece), found.rule]

    def token_at(self, place):
        if place >= len(self.text):
            return [-1]
        # Tokens cover the text without gaps, so the last one that has begun holds the byte.
        begun = [token for token in self.tokens if token.begin <= place]
        return [len(begun) - 1]

    def find_token(self, rule, begin_at):
        for number in range(begin_at, len(self.tokens)):
            if self.tokens[number].rule == rule:
                return [number]
        return [-1]

    def tally(self, rule):
        return [len([token for token in self.tokens if token.rule == rule])]

    def text_from(self, at, size):
        if at + size > len(self.text):
            return [-1]
        return [0, size] + self.text[at:at + size]
