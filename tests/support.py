"""What the tests share: calls as lists, answers apart, and the document's words as a slow scanner."""

from functools import lru_cache

from editedlex.editor import answers

NOTHING, BYTE, SEQ, ALT, MANY = range(5)
ANYTHING = 4294967295


def nothing():
    return (NOTHING, ANYTHING, ANYTHING, ANYTHING, ANYTHING)


def byte(lo, hi=None):
    low = ord(lo) if isinstance(lo, str) else lo
    high = low if hi is None else ord(hi) if isinstance(hi, str) else hi
    return (BYTE, low, high, ANYTHING, ANYTHING)


def seq(a, b):
    return (SEQ, ANYTHING, ANYTHING, a, b)


def alt(a, b):
    return (ALT, ANYTHING, ANYTHING, a, b)


def many(a):
    return (MANY, ANYTHING, ANYTHING, a, ANYTHING)


def word(text):
    """The nodes that match just this text."""
    nodes = [byte(text[0])]
    for letter in text[1:]:
        nodes.append(byte(letter))
        nodes.append(seq(len(nodes) - 2, len(nodes) - 1))
    return nodes


def some(lo, hi):
    """The nodes that match one or more bytes from lo to hi."""
    return [byte(lo, hi), many(0), seq(0, 1)]


NAME = some("a", "z")
NUMBER = some("0", "9")
BLANKS = some(" ", " ")
QUOTED = [byte("'"), byte(" ", "&"), byte("(", "~"), alt(1, 2), many(3), seq(0, 4), seq(5, 0)]


def row(s):
    return [ord(letter) for letter in s] if isinstance(s, str) else list(s)


def rule(nodes):
    return rule_of_numbers([number for node in nodes for number in node])


def rule_of_numbers(numbers):
    return [1, len(numbers)] + list(numbers)


def match(k, s):
    return [2, k, len(s)] + row(s)


def edit(at, remove, s):
    return [3, at, remove, len(s)] + row(s)


def counts():
    return [4]


def token(i):
    return [5, i]


def token_at(pos):
    return [6, pos]


def find(owner, begin_at):
    return [7, owner, begin_at]


def tally(owner):
    return [8, owner]


def text_from(at, n):
    return [9, at, n]


def may_be_asked(calls):
    """Whether these calls keep to the bounds of what is handed in."""
    nodes = sum(call[1] for call in calls if call[0] == 1)
    s = sum(call[2] for call in calls if call[0] == 2) + sum(call[3] for call in calls if call[0] == 3)
    return 1 <= len(calls) <= 400 and len(calls) * (1 + nodes) * (1 + s) <= 1000000


def run(*calls):
    """What each call answers, as a list of its own."""
    if not may_be_asked(calls):
        raise AssertionError("such calls aren't asked")
    given = answers([number for call in calls for number in call])
    apart = []
    place = 0
    while place < len(given):
        apart.append(given[place + 1:place + 1 + given[place]])
        place += 1 + given[place]
    if place != len(given) or len(apart) != len(calls):
        raise AssertionError(f"{given} doesn't answer {len(calls)} calls")
    return apart


def told_tokens(*calls):
    """The tokens told behind these calls, as (begin, size, rule)."""
    size = run(*calls, counts())[-1][2]
    told = run(*calls, *[token(i) for i in range(size)])
    return [tuple(answer[1:]) for answer in told[len(calls):]]


def tokens_of(text, *rules):
    """The tokens told of a text that one edit puts in, as (its text, its rule)."""
    told = told_tokens(*[rule(nodes) for nodes in rules], edit(0, 0, text))
    return [(text[begin:begin + size], owner) for begin, size, owner in told]


def length_by_words(nodes, text):
    """How many bytes of the longest text at the beginning the last node matches, None if none does."""
    text = row(text)

    @lru_cache(maxsize=None)
    def matches(place, begin, end):
        kind, lo, hi, a, b = nodes[place]
        if kind == NOTHING:
            return begin == end
        if kind == BYTE:
            return end == begin + 1 and lo <= text[begin] <= hi
        if kind == SEQ:
            return any(matches(a, begin, mid) and matches(b, mid, end) for mid in range(begin, end + 1))
        if kind == ALT:
            return matches(a, begin, end) or matches(b, begin, end)
        return begin == end or any(
            matches(a, begin, mid) and matches(place, mid, end) for mid in range(begin + 1, end + 1))

    fitting = [end for end in range(len(text) + 1) if matches(len(nodes) - 1, 0, end)]
    return max(fitting, default=None)


def some_rule(source):
    """Nodes over a and b, made up from this random source, that don't match the empty text."""
    while True:
        nodes = [byte("a"), byte("b"), byte("a", "b"), nothing()]
        for place in range(4, source.randrange(5, 10)):
            a, b = source.randrange(place), source.randrange(place)
            nodes.append(source.choice([seq(a, b), seq(a, b), alt(a, b), many(a)]))
        if length_by_words(nodes, "") is None:
            return nodes


def best_by_words(text, rules):
    """The longest match at the beginning and its rule as it is told, (0, 0) if there's none."""
    best = (0, 0)
    for number, nodes in enumerate(rules):
        size = length_by_words(nodes, text)
        if size is not None and size > best[0]:
            best = (size, number + 1)
    return best


def scan_by_words(text, rules):
    """The tokens of the whole text, as (begin, size, rule)."""
    found = []
    begin = 0
    while begin < len(text):
        size, owner = best_by_words(text[begin:], rules)
        while owner == 0 and begin + size < len(text) and best_by_words(text[begin + size:], rules) == (0, 0):
            size += 1
        found.append((begin, size, owner))
        begin += size
    return found


def pieces(text, tokens):
    """Of tokens, what makes them the same: rule and bytes."""
    return [(owner, tuple(text[begin:begin + size])) for begin, size, owner in tokens]


def change_by_words(before, after):
    """first, gone, come of two lists of pieces."""
    shorter = min(len(before), len(after))
    first = max(n for n in range(shorter + 1) if before[:n] == after[:n])
    old, new = before[first:], after[first:]
    last = max(n for n in range(shorter - first + 1) if old[len(old) - n:] == new[len(new) - n:])
    return [first, len(old) - last, len(new) - last]


def is_row_of_nodes(numbers):
    """Whether these are 1 to 32 nodes of five numbers each, every one as the document says it."""
    if len(numbers) not in range(5, 161, 5):
        return False
    for place in range(len(numbers) // 5):
        kind, lo, hi, a, b = numbers[5 * place:5 * place + 5]
        parts = {SEQ: [a, b], ALT: [a, b], MANY: [a]}.get(kind, [])
        if kind > MANY or max(parts, default=-1) >= place or kind == BYTE and not lo <= hi <= 255:
            return False
    return True


class ByWords:
    """All nine calls as the document's words tell them; each question scans the text anew."""

    def __init__(self):
        self.rules = []
        self.text = []

    def answer(self, call):
        does = {1: self.rule, 2: self.match, 3: self.edit, 4: self.counts, 5: self.token, 6: self.at, 7: self.find,
                8: self.tally, 9: self.text_from}
        return does[call[0]](*call[1:])

    def tokens(self):
        return scan_by_words(self.text, self.rules)

    def rule(self, size, *numbers):
        if self.text:
            return [-1]
        if len(self.rules) == 8:
            return [-2]
        if not is_row_of_nodes(numbers):
            return [-3]
        nodes = [numbers[begin:begin + 5] for begin in range(0, size, 5)]
        if length_by_words(nodes, "") is not None:
            return [-4]
        self.rules.append(nodes)
        return [len(self.rules) - 1]

    def match(self, k, size, *s):
        if k >= len(self.rules):
            return [-2]
        if size > 512:
            return [-3]
        return [length_by_words(self.rules[k], s) or -1]

    def edit(self, at, remove, size, *s):
        if at + remove > len(self.text):
            return [-1]
        if size > 512 or len(self.text) - remove + size > 512:
            return [-2]
        before = pieces(self.text, self.tokens())
        self.text = self.text[:at] + list(s) + self.text[at + remove:]
        return [0] + change_by_words(before, pieces(self.text, self.tokens()))

    def counts(self):
        return [0, len(self.text), len(self.tokens()), len(self.rules)]

    def token(self, i):
        tokens = self.tokens()
        return [0, *tokens[i]] if i < len(tokens) else [-1]

    def at(self, pos):
        inside = [i for i, (begin, size, owner) in enumerate(self.tokens()) if begin <= pos < begin + size]
        return inside or [-1]

    def find(self, owner, begin_at):
        having = [i for i, found in enumerate(self.tokens()) if found[2] == owner and i >= begin_at]
        return having[:1] or [-1]

    def tally(self, owner):
        return [[found[2] for found in self.tokens()].count(owner)]

    def text_from(self, at, n):
        return [0, n, *self.text[at:at + n]] if at + n <= len(self.text) else [-1]
