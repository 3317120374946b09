"""The tokens of a text, scanned from its beginning by rules."""

from editedlex.matching import longest_matches

NO_RULE = 0


class Token:
    """A token: where it begins, its bytes, and its rule as it is told (0 for no rule)."""

    def __init__(self, begin, piece, rule):
        self.begin = begin
        self.piece = piece
        self.rule = rule


def same(one, other):
    """Whether two tokens are the same; where they begin doesn't count."""
    return one.rule == other.rule and one.piece == other.piece


def tokens_of(text, rules):
    """The tokens of the whole text, in order."""
    sizes, owners = best_matches(text, rules)
    tokens = []
    begin = 0
    while begin < len(text):
        end = begin + sizes[begin]
        if owners[begin] == NO_RULE:
            end = end_of_unmatched(owners, begin)
        tokens.append(Token(begin, text[begin:end], owners[begin]))
        begin = end
    return tokens


def best_matches(text, rules):
    """For each place of the text: how many bytes the best match has, and its rule as it is told."""
    sizes = [0] * len(text)
    owners = [NO_RULE] * len(text)
    for number, nodes in enumerate(rules):
        matched = longest_matches(nodes, text)
        for place in range(len(text)):
            # Only a longer match takes the place of an earlier rule's: among equals the first counts.
            if matched[place] > sizes[place]:
                sizes[place] = matched[place]
                owners[place] = number + 1
    return (sizes, owners)


def end_of_unmatched(owners, begin):
    """The next place where a rule matches, or the text's end."""
    end = begin
    while end < len(owners) and owners[end] == NO_RULE:
        end = end + 1
    return end


def changed(before, after):
    """What became of the tokens: how many at the beginning stayed, and behind them how many went and came."""
    shorter = min(len(before), len(after))
    first = 0
    while first < shorter and same(before[first], after[first]):
        first = first + 1
    last = 0
    while last < shorter - first and same(before[len(before) - 1 - last], after[len(after) - 1 - last]):
        last = last + 1
    return [first, len(before) - first - last, len(after) - first - last]
