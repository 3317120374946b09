"""The calls at, find, tally and text: what is told of the tokens and of the text, and the refusals."""

import unittest

from support import (ANYTHING, BLANKS, NAME, NUMBER, QUOTED, byte, counts, edit, find, row, rule, run, scan_by_words,
                     some, tally, text_from, token, token_at, told_tokens, word)

# Tokens: ab 1, .. 0, 12 2, c 1, ! 0, 3 2, de 1
MIXED = [rule(NAME), rule(NUMBER), rule(BLANKS), edit(0, 0, "ab..12c!3de")]


def asked(calls, *questions):
    """What the questions behind these calls are answered, each a list of its own."""
    return run(*calls, *questions)[len(calls):]


class At(unittest.TestCase):
    def test_every_byte_of_every_token(self):
        given = asked(MIXED, *[token_at(pos) for pos in range(11)])
        self.assertEqual(given, [[0], [0], [1], [1], [2], [2], [3], [4], [5], [6], [6]])

    def test_first_within_and_last(self):
        calls = [rule(NAME), edit(0, 0, "abcd....efgh")]
        given = asked(calls, *[token_at(pos) for pos in (0, 2, 3, 4, 6, 7, 8, 10, 11)])
        self.assertEqual(given, [[0], [0], [0], [1], [1], [1], [2], [2], [2]])

    def test_a_text_that_no_rule_matches(self):
        given = asked([edit(0, 0, "abc")], *[token_at(pos) for pos in range(4)])
        self.assertEqual(given, [[0], [0], [0], [-1]])

    def test_the_last_byte_and_the_end(self):
        given = asked(MIXED, token_at(10), token_at(11), token_at(12), token_at(ANYTHING))
        self.assertEqual(given, [[6], [-1], [-1], [-1]])

    def test_the_empty_text(self):
        self.assertEqual(run(token_at(0), token_at(1), token_at(ANYTHING)), [[-1]] * 3)
        self.assertEqual(asked([edit(0, 0, "a"), edit(0, 1, "")], token_at(0)), [[-1]])

    def test_the_longest_text(self):
        given = asked([rule([byte("a")]), edit(0, 0, "a" * 512)], *[token_at(pos) for pos in (0, 511, 512)])
        self.assertEqual(given, [[0], [511], [-1]])


class Find(unittest.TestCase):
    def test_from_one_that_has_the_rule(self):
        given = asked(MIXED, find(1, 0), find(1, 3), find(1, 6), find(2, 2), find(2, 5), find(0, 1), find(0, 4))
        self.assertEqual(given, [[0], [3], [6], [2], [5], [1], [4]])

    def test_from_one_ahead_of_it(self):
        given = asked(MIXED, find(1, 1), find(1, 2), find(1, 4), find(2, 0), find(2, 3), find(0, 0), find(0, 2))
        self.assertEqual(given, [[3], [3], [6], [2], [5], [1], [4]])

    def test_from_behind_the_last_that_has_it(self):
        self.assertEqual(asked(MIXED, find(2, 6), find(0, 5), find(0, 6)), [[-1]] * 3)

    def test_from_past_the_last_token(self):
        given = asked(MIXED, *[find(owner, begin_at) for owner in (0, 1, 2) for begin_at in (7, 8, ANYTHING)])
        self.assertEqual(given, [[-1]] * 9)

    def test_none_has_it(self):
        self.assertEqual(asked(MIXED, *[find(owner, 0) for owner in (3, 4, 8, 9, ANYTHING)]), [[-1]] * 5)
        self.assertEqual(asked([edit(0, 0, "ab")], find(1, 0), find(0, 0)), [[-1], [0]])
        self.assertEqual(asked([rule(NAME), edit(0, 0, "ab")], find(0, 0), find(1, 0)), [[-1], [0]])

    def test_the_empty_text(self):
        self.assertEqual(run(find(0, 0), find(1, 0), rule(NAME), find(1, 0), find(0, 0), find(ANYTHING, ANYTHING)),
                         [[-1], [-1], [0], [-1], [-1], [-1]])

    def test_eight_rules(self):
        calls = [rule(word(letter)) for letter in "abcdefgh"] + [edit(0, 0, "hgfedcba.")]
        self.assertEqual(asked(calls, *[find(owner, 0) for owner in range(10)]),
                         [[8], [7], [6], [5], [4], [3], [2], [1], [0], [-1]])


class Tally(unittest.TestCase):
    def test_tokens_of_no_rule_and_of_several(self):
        self.assertEqual(asked(MIXED, tally(0), tally(1), tally(2), tally(3)), [[2], [3], [2], [0]])

    def test_tokens_are_counted_and_not_bytes(self):
        self.assertEqual(asked([rule(NAME), edit(0, 0, "abc....")], tally(1), tally(0)), [[1], [1]])

    def test_a_number_that_is_no_rule_s(self):
        self.assertEqual(asked(MIXED, *[tally(owner) for owner in (4, 8, 9, 255, 256, ANYTHING)]), [[0]] * 6)
        self.assertEqual(asked([edit(0, 0, "ab")], tally(0), tally(1)), [[1], [0]])

    def test_the_empty_text(self):
        self.assertEqual(run(tally(0), tally(1), rule(NAME), tally(0), tally(1)), [[0], [0], [0], [0], [0]])

    def test_all_tokens_of_the_longest_text(self):
        calls = [rule(word(letter)) for letter in "abcdefgh"] + [edit(0, 0, "abcdefgh." * 56 + "abcdefgh")]
        self.assertEqual(asked(calls, *[tally(owner) for owner in range(10)]), [[56]] + [[57]] * 8 + [[0]])


class Text(unittest.TestCase):
    def test_a_part(self):
        given = asked(MIXED, text_from(0, 2), text_from(1, 4), text_from(10, 1), text_from(4, 7))
        self.assertEqual(given, [[0, len(s)] + row(s) for s in ("ab", "b..1", "e", "12c!3de")])

    def test_all_bytes_and_one_more(self):
        self.assertEqual(asked(MIXED, text_from(0, 11), text_from(0, 12)), [[0, 11] + row("ab..12c!3de"), [-1]])

    def test_up_to_the_end_and_past_it(self):
        for at in range(12):
            given = asked(MIXED, text_from(at, 11 - at), text_from(at, 12 - at))
            self.assertEqual(given, [[0, 11 - at] + row("ab..12c!3de")[at:], [-1]])

    def test_no_bytes(self):
        given = asked(MIXED, text_from(0, 0), text_from(5, 0), text_from(11, 0), text_from(12, 0))
        self.assertEqual(given, [[0, 0], [0, 0], [0, 0], [-1]])

    def test_the_empty_text(self):
        self.assertEqual(run(text_from(0, 0), text_from(0, 1), text_from(1, 0)), [[0, 0], [-1], [-1]])
        self.assertEqual(asked([edit(0, 0, "a"), edit(0, 1, "")], text_from(0, 0), text_from(0, 1)), [[0, 0], [-1]])

    def test_the_largest_numbers(self):
        largest = [(ANYTHING, 0), (0, ANYTHING), (ANYTHING, 1), (1, ANYTHING), (11, ANYTHING), (ANYTHING, ANYTHING),
                   (ANYTHING, ANYTHING - 10)]
        self.assertEqual(asked(MIXED, *[text_from(at, n) for at, n in largest]), [[-1]] * len(largest))

    def test_any_bytes(self):
        given = asked([edit(0, 0, [0, 255, 0, 0, 255])], text_from(0, 5), text_from(1, 2), text_from(3, 1))
        self.assertEqual(given, [[0, 5, 0, 255, 0, 0, 255], [0, 2, 255, 0], [0, 1, 0]])

    def test_every_byte_of_the_longest_text(self):
        calls = [edit(0, 0, range(256)), edit(256, 0, range(255, -1, -1))]
        given = asked(calls, text_from(0, 512), text_from(0, 513), text_from(512, 0), text_from(511, 1))
        self.assertEqual(given, [[0, 512, *range(256), *range(255, -1, -1)], [-1], [0, 0], [0, 1, 0]])

    def test_just_what_the_edits_left(self):
        calls = [edit(0, 0, "one two"), edit(3, 1, "--"), edit(8, 0, "!"), edit(0, 1, ""), edit(2, 2, [0, 255])]
        self.assertEqual(asked(calls, text_from(0, 8)), [[0, 8, *row("ne"), 0, 255, *row("two!")]])

    def test_a_part_is_told_whatever_the_tokens_are(self):
        for rules in ([], [NAME], [word("a"), word("b"), NUMBER]):
            calls = [*[rule(nodes) for nodes in rules], edit(0, 0, "aab12")]
            self.assertEqual(asked(calls, text_from(1, 3)), [[0, 3] + row("ab1")])


class Refusals(unittest.TestCase):
    EVERYTHING = [counts(), text_from(0, 11), *[token(i) for i in range(8)], *[token_at(pos) for pos in range(12)],
                  *[find(owner, 0) for owner in range(5)], *[tally(owner) for owner in range(5)]]

    def test_nothing_changes(self):
        before = asked(MIXED, *self.EVERYTHING)
        for refused in (token_at(11), token_at(ANYTHING), find(3, 0), find(ANYTHING, 0), find(1, 7),
                        find(0, ANYTHING), text_from(12, 0), text_from(0, 12), text_from(ANYTHING, ANYTHING)):
            self.assertEqual(asked(MIXED, refused, *self.EVERYTHING), [[-1]] + before, refused)

    def test_what_is_answered_changes_nothing(self):
        before = asked(MIXED, *self.EVERYTHING)
        self.assertEqual(asked(MIXED, *self.EVERYTHING, *self.EVERYTHING), before + before)

    def test_the_next_edit_tells_what_it_would_have_told(self):
        for refused in (token_at(11), find(3, 0), text_from(0, 12)):
            self.assertEqual(asked(MIXED, refused, edit(6, 1, "4")), [[-1]] + asked(MIXED, edit(6, 1, "4")))

    def test_refused_edits_are_not_told(self):
        for refused, number in [(edit(12, 0, "x"), -1), (edit(0, 0, "x" * 502), -2), (rule(NAME), -1)]:
            given = asked(MIXED, refused, *self.EVERYTHING)
            self.assertEqual(given, [[number]] + asked(MIXED, *self.EVERYTHING))


class AfterEdits(unittest.TestCase):
    """After each of several edits, all that can be asked is held against the whole text, scanned anew."""

    def hold(self, calls, text, rules):
        tokens = scan_by_words(text, rules)
        owners = [owner for begin, size, owner in tokens]
        self.assertEqual(told_tokens(*calls), tokens)
        where = [[i] for i, (begin, size, owner) in enumerate(tokens) for _ in range(size)]
        self.assertEqual(asked(calls, *[token_at(pos) for pos in range(len(text) + 1)]), where + [[-1]])
        for rule_told in range(len(rules) + 2):
            first = [[owners.index(rule_told, begin_at)] if rule_told in owners[begin_at:] else [-1]
                     for begin_at in range(len(tokens) + 2)]
            self.assertEqual(asked(calls, *[find(rule_told, k) for k in range(len(tokens) + 2)]), first)
            self.assertEqual(asked(calls, tally(rule_told)), [[owners.count(rule_told)]])
        self.assertEqual(asked(calls, text_from(0, len(text))), [[0, len(text)] + text])

    def follow(self, rules, edits):
        calls = [rule(nodes) for nodes in rules]
        text = []
        for at, remove, s in edits:
            text = text[:at] + row(s) + text[at + remove:]
            calls.append(edit(at, remove, s))
            self.hold(calls, text, rules)

    def test_names_and_numbers(self):
        self.follow([word("if"), NAME, NUMBER], [
            (0, 0, "if x1 ifx"), (2, 1, ""), (2, 0, "??"), (9, 1, " "), (0, 4, ""), (1, 0, "1"), (0, 7, "if"),
            (2, 0, "if"), (2, 0, "!"), (0, 5, ""), (0, 0, "  ")])

    def test_far_from_the_edit(self):
        self.follow([NAME, QUOTED], [(0, 0, "a 'b c' d 'e"), (0, 0, "'"), (13, 0, "'"), (3, 1, ""), (0, 1, "z")])

    def test_bytes_of_all_values(self):
        self.follow([[byte(0)], some(255, 255)], [
            (0, 0, [0, 255, 255, 1]), (1, 0, [0]), (3, 1, [254]), (5, 0, [255, 0]), (0, 2, ""), (0, 5, [255, 255])])


if __name__ == "__main__":
    unittest.main()
