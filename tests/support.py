"""What the tests share: calls as lists, answers apart, and the document's words as a slow scanner."""

from functools import lru_cache

from editedlex.editor import answers

NOTHING, BYTE, SEQ, ALT, MANY = range(5)
ANYTHING = 4294967295


def nothing():
    return (NOTHING, ANYTHING, ANYTHING, ANYTHING, ANYTHING)


def byte(lo, hi=None):
    low = ord(lo) if isinstance(lo, str) else lo
    high = low if hi is None else ord(hi) if isinstance(hi, str) else hi
    return (BYTE, low, high, ANYTHING, ANYTHING)


def seq(a, b):
    return (SEQ, ANYTHING, ANYTHING, a, b)


def alt(a, b):
    return (ALT, ANYTHING, ANYTHING, a, b)


def many(a):
    return (MANY, ANYTHING, ANYTHING, a, ANYTHING)


def word(text):
    """The nodes that match just this text."""
    nodes = [byte(text[0])]
    for letter in text[1:]:
        nodes.append(byte(letter))
        nodes.append(seq(len(nodes) - 2, len(nodes) - 1))
    return nodes


def some(lo, hi):
    """The nodes that match one or more bytes from lo to hi."""
    return [byte(lo, hi), many(0), seq(0, 1)]


def row(s):
    return [ord(letter) for letter in s] if isinstance(s, str) else list(s)


def rule(nodes):
    return rule_of_numbers([number for node in nodes for number in node])


def rule_of_numbers(numbers):
    return [1, len(numbers)] + list(numbers)


def match(k, s):
    return [2, k, len(s)] + row(s)


def edit(at, remove, s):
    return [3, at, remove, len(s)] + row(s)


def counts():
    return [4]


def token(i):
    return [5, i]


def may_be_asked(calls):
    """Whether these calls keep to the bounds of what is handed in."""
    nodes = sum(call[1] for call in calls if call[0] == 1)
    s = sum(call[2] for call in calls if call[0] == 2) + sum(call[3] for call in calls if call[0] == 3)
    return 1 <= len(calls) <= 400 and len(calls) * (1 + nodes) * (1 + s) <= 1000000


def run(*calls):
    """What each call answers, as a list of its own."""
    if not may_be_asked(calls):
        raise AssertionError("such calls aren't asked")
    given = answers([number for call in calls for number in call])
    apart = []
    place = 0
    while place < len(given):
        apart.append(given[place + 1:place + 1 + given[place]])
        place += 1 + given[place]
    if place != len(given) or len(apart) != len(calls):
        raise AssertionError(f"{given} doesn't answer {len(calls)} calls")
    return apart


def told_tokens(*calls):
    """The tokens told behind these calls, as (begin, size, rule)."""
    size = run(*calls, counts())[-1][2]
    told = run(*calls, *[token(i) for i in range(size)])
    return [tuple(answer[1:]) for answer in told[len(calls):]]


def tokens_of(text, *rules):
    """The tokens told of a text that one edit puts in, as (its text, its rule)."""
    told = told_tokens(*[rule(nodes) for nodes in rules], edit(0, 0, text))
    return [(text[begin:begin + size], owner) for begin, size, owner in told]


def length_by_words(nodes, text):
    """How many bytes of the longest text at the beginning the last node matches, None if none does."""
    text = row(text)

    @lru_cache(maxsize=None)
    def matches(place, begin, end):
        kind, lo, hi, a, b = nodes[place]
        if kind == NOTHING:
            return begin == end
        if kind == BYTE:
            return end == begin + 1 and lo <= text[begin] <= hi
        if kind == SEQ:
            return any(matches(a, begin, mid) and matches(b, mid, end) for mid in range(begin, end + 1))
        if kind == ALT:
            return matches(a, begin, end) or matches(b, begin, end)
        return begin == end or any(
            matches(a, begin, mid) and matches(place, mid, end) for mid in range(begin + 1, end + 1))

    fitting = [end for end in range(len(text) + 1) if matches(len(nodes) - 1, 0, end)]
    return max(fitting, default=None)


def best_by_words(text, rules):
    """The longest match at the beginning and its rule as it is told, (0, 0) if there's none."""
    best = (0, 0)
    for number, nodes in enumerate(rules):
        size = length_by_words(nodes, text)
        if size is not None and size > best[0]:
            best = (size, number + 1)
    return best


def scan_by_words(text, rules):
    """The tokens of the whole text, as (begin, size, rule)."""
    found = []
    begin = 0
    while begin < len(text):
        size, owner = best_by_words(text[begin:], rules)
        while owner == 0 and begin + size < len(text) and best_by_words(text[begin + size:], rules) == (0, 0):
            size += 1
        found.append((begin, size, owner))
        begin += size
    return found


def pieces(text, tokens):
    """Of tokens, what makes them the same: rule and bytes."""
    return [(owner, tuple(text[begin:begin + size])) for begin, size, owner in tokens]


def change_by_words(before, after):
    """first, gone, come of two lists of pieces."""
    shorter = min(len(before), len(after))
    first = max(n for n in range(shorter + 1) if before[:n] == after[:n])
    old, new = before[first:], after[first:]
    last = max(n for n in range(shorter - first + 1) if old[len(old) - n:] == new[len(new) - n:])
    return [first, len(old) - last, len(new) - last]
