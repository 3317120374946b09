"""The calls edit, counts and token: the tokens of the text, what an edit changed, and the refusals."""

import random
import unittest

from support import (ANYTHING, BLANKS, NAME, NUMBER, QUOTED, byte, change_by_words, counts, edit, many, pieces, row,
                     rule, run, scan_by_words, seq, some, some_rule, token, tokens_of, told_tokens, word)

REMARK = [byte("/"), byte("*"), seq(0, 1), byte(0, 255), many(3), seq(2, 4), seq(1, 0), seq(5, 6)]


class Beginning(unittest.TestCase):
    def test_no_rules_and_the_empty_text(self):
        self.assertEqual(run(counts(), token(0)), [[0, 0, 0, 0], [-1]])

    def test_the_first_edit(self):
        given = run(rule(NAME), rule(BLANKS), edit(0, 0, "an edit"), counts(), token(0), token(1), token(2), token(3))
        self.assertEqual(given[2:], [[0, 0, 0, 3], [0, 7, 3, 2], [0, 0, 2, 1], [0, 2, 1, 2], [0, 3, 4, 1], [-1]])


class LongestThenFirst(unittest.TestCase):
    def test_the_longest_of_any_rule(self):
        self.assertEqual(tokens_of("if", word("i"), word("if"), word("f")), [("if", 2)])
        self.assertEqual(tokens_of("ifx", word("if"), NAME), [("ifx", 2)])
        self.assertEqual(tokens_of("<<=<", word("<"), word("<<"), word("<<=")), [("<<=", 3), ("<", 1)])

    def test_the_first_of_equals(self):
        self.assertEqual(tokens_of("if", word("if"), NAME), [("if", 1)])
        self.assertEqual(tokens_of("if", NAME, word("if")), [("if", 1)])
        self.assertEqual(tokens_of("if", word("x"), word("i"), NAME, word("if"), NAME), [("if", 3)])

    def test_the_longest_even_if_the_rest_is_matched_by_none(self):
        self.assertEqual(tokens_of("aab", word("aa"), word("a"), word("ab")), [("aa", 1), ("b", 0)])

    def test_back_to_the_longest_that_matched(self):
        rules = [word("a"), word("abcd"), word("b")]
        self.assertEqual(tokens_of("abcx", *rules), [("a", 1), ("b", 3), ("cx", 0)])
        self.assertEqual(tokens_of("abcd", *rules), [("abcd", 2)])

    def test_eight_rules(self):
        rules = [word(letter) for letter in "hgfedcba"]
        self.assertEqual(tokens_of("abch", *rules), [("a", 8), ("b", 7), ("c", 6), ("h", 1)])


class NoRule(unittest.TestCase):
    def test_no_rules_at_all(self):
        self.assertEqual(tokens_of("some text"), [("some text", 0)])

    def test_up_to_where_a_rule_matches(self):
        self.assertEqual(tokens_of("..ab...c", NAME), [("..", 0), ("ab", 1), ("...", 0), ("c", 1)])

    def test_up_to_the_end(self):
        self.assertEqual(tokens_of("ab...", NAME), [("ab", 1), ("...", 0)])

    def test_what_only_begins_like_a_rule_is_passed_over(self):
        self.assertEqual(tokens_of("ababc", word("abc")), [("ab", 0), ("abc", 1)])
        self.assertEqual(tokens_of("abab", word("abc")), [("abab", 0)])

    def test_one_token_of_no_rule_however_long(self):
        self.assertEqual(tokens_of("." * 512, NAME), [("." * 512, 0)])
        self.assertEqual(tokens_of("." * 511 + "a", NAME), [("." * 511, 0), ("a", 1)])

    def test_tokens_cover_the_text(self):
        text = "x1 = 'a b' /* no"
        told = told_tokens(rule(NAME), rule(NUMBER), rule(QUOTED), edit(0, 0, text))
        place = 0
        for begin, size, owner in told:
            self.assertEqual(begin, place)
            self.assertGreater(size, 0)
            place += size
        self.assertEqual(place, len(text))


class AnyBytes(unittest.TestCase):
    def test_first_and_last_byte(self):
        given = told_tokens(rule([byte(0)]), rule([byte(255)]), edit(0, 0, [0, 255, 1, 254, 255, 0, 0]))
        self.assertEqual(given, [(0, 1, 1), (1, 1, 2), (2, 2, 0), (4, 1, 2), (5, 1, 1), (6, 1, 1)])

    def test_every_byte(self):
        self.assertEqual(told_tokens(rule(some(0, 255)), edit(0, 0, range(256))), [(0, 256, 1)])
        self.assertEqual(told_tokens(edit(0, 0, range(256))), [(0, 256, 0)])

    def test_a_change_of_such_a_byte_is_told(self):
        given = run(rule([byte(0, 255)]), edit(0, 0, [0, 255, 0]), edit(1, 1, [0]), edit(0, 1, [255]))
        self.assertEqual(given[1:], [[0, 0, 0, 3], [0, 1, 1, 1], [0, 0, 1, 1]])


class Changes(unittest.TestCase):
    def change(self, rules, before, *change):
        return run(*[rule(nodes) for nodes in rules], edit(0, 0, before), edit(*change))[-1]

    def test_in_the_middle(self):
        rules = [NAME, BLANKS]
        self.assertEqual(self.change(rules, "one two three", 4, 3, "four"), [0, 2, 1, 1])
        self.assertEqual(self.change(rules, "one two three", 5, 0, " "), [0, 2, 1, 3])
        self.assertEqual(self.change(rules, "one two three", 3, 1, ""), [0, 0, 3, 1])

    def test_at_the_beginning_and_at_the_end(self):
        rules = [NAME, BLANKS]
        self.assertEqual(self.change(rules, "one two", 0, 0, "x "), [0, 0, 0, 2])
        self.assertEqual(self.change(rules, "one two", 0, 4, ""), [0, 0, 2, 0])
        self.assertEqual(self.change(rules, "one two", 7, 0, " x"), [0, 3, 0, 2])
        self.assertEqual(self.change(rules, "one two", 3, 4, ""), [0, 1, 2, 0])
        self.assertEqual(self.change(rules, "one two", 7, 0, "x"), [0, 2, 1, 1])

    def test_repeated_tokens_count_at_the_beginning_first(self):
        rules = [word("a"), word("b")]
        self.assertEqual(self.change(rules, "aaa", 0, 0, "a"), [0, 3, 0, 1])
        self.assertEqual(self.change(rules, "aaa", 0, 1, ""), [0, 2, 1, 0])
        self.assertEqual(self.change(rules, "aaa", 0, 2, "a"), [0, 2, 1, 0])
        self.assertEqual(self.change(rules, "abab", 0, 0, "ab"), [0, 4, 0, 2])
        self.assertEqual(self.change(rules, "abab", 0, 2, ""), [0, 2, 2, 0])
        self.assertEqual(self.change(rules, "aba", 1, 1, ""), [0, 1, 1, 0])
        self.assertEqual(self.change(rules, "aa", 1, 0, "ba"), [0, 1, 0, 2])

    def test_an_edit_that_changes_nothing(self):
        rules = [NAME, BLANKS]
        self.assertEqual(self.change(rules, "one two", 4, 3, "two"), [0, 3, 0, 0])
        self.assertEqual(self.change(rules, "one two", 0, 7, "one two"), [0, 3, 0, 0])

    def test_an_edit_of_no_bytes(self):
        for at in (0, 2, 3, 7):
            self.assertEqual(self.change([NAME, BLANKS], "one two", at, 0, ""), [0, 3, 0, 0])
        self.assertEqual(run(edit(0, 0, ""), counts()), [[0, 0, 0, 0], [0, 0, 0, 0]])

    def test_an_edit_that_empties_the_text(self):
        given = run(rule(NAME), rule(BLANKS), edit(0, 0, "one two"), edit(0, 7, ""), counts(), token(0))
        self.assertEqual(given[3:], [[0, 0, 3, 0], [0, 0, 0, 2], [-1]])

    def test_tokens_that_become_one_and_one_that_becomes_several(self):
        self.assertEqual(self.change([word("ab"), word("abc")], "ab", 2, 0, "c"), [0, 0, 1, 1])
        self.assertEqual(self.change([word("a"), word("!a")], "a", 0, 0, "!"), [0, 0, 1, 1])
        self.assertEqual(self.change([word("ab"), word("a"), word("b")], "ab", 1, 1, "c"), [0, 0, 1, 2])
        self.assertEqual(self.change([word("'a'"), word("'")], "'a", 2, 0, "'"), [0, 0, 2, 1])

    def test_bytes_of_no_rule_that_come_to_have_one(self):
        rules = [word("(("), word("x")]
        self.assertEqual(self.change(rules, "(x", 0, 0, "("), [0, 0, 1, 1])
        self.assertEqual(self.change(rules, "((x", 0, 1, ""), [0, 0, 1, 1])
        self.assertEqual(self.change(rules, "(.(x", 1, 1, ""), [0, 0, 1, 1])

    def test_the_same_rule_with_other_bytes_is_another_token(self):
        self.assertEqual(self.change([NAME], "ab", 0, 1, "x"), [0, 0, 1, 1])
        self.assertEqual(self.change([], "ab", 0, 1, "x"), [0, 0, 1, 1])

    def test_ahead_of_the_place_that_was_edited(self):
        rules = [word("a"), word("b"), word("aabb!")]
        self.assertEqual(self.change(rules, "baabb", 5, 0, "!"), [0, 1, 4, 1])
        self.assertEqual(self.change(rules, "baabb!", 5, 1, ""), [0, 1, 1, 4])

    def test_far_behind_the_place_that_was_edited(self):
        rules = [NAME, BLANKS, QUOTED]
        self.assertEqual(self.change(rules, "a 'b c' d 'e f'", 0, 0, "'"), [0, 0, 7, 9])
        self.assertEqual(self.change([REMARK, NAME, BLANKS], "/ a b c d */", 1, 0, "*"), [0, 0, 11, 1])
        self.assertEqual(self.change([REMARK, NAME, BLANKS], "/* a b c d */", 1, 1, ""), [0, 0, 1, 11])

    def test_tokens_behind_count_though_they_moved(self):
        self.assertEqual(self.change([NAME, BLANKS], "a b c", 0, 1, "long"), [0, 0, 1, 1])


class Refusals(unittest.TestCase):
    def test_past_the_end(self):
        calls = [rule(NAME), edit(0, 0, "abc")]
        for at, remove in [(4, 0), (3, 1), (0, 4), (2, 2), (ANYTHING, 0), (0, ANYTHING), (ANYTHING, ANYTHING),
                           (1, ANYTHING), (ANYTHING, 1)]:
            self.assertEqual(run(*calls, edit(at, remove, "x"), counts(), token(0))[2:],
                             [[-1], [0, 3, 1, 1], [0, 0, 3, 1]])
        for at, remove in [(3, 0), (2, 1), (0, 3)]:
            self.assertEqual(run(*calls, edit(at, remove, "x"))[-1][0], 0)

    def test_past_the_end_of_the_empty_text(self):
        self.assertEqual(run(edit(1, 0, ""), edit(0, 1, ""), edit(0, 0, "")), [[-1], [-1], [0, 0, 0, 0]])

    def test_how_long_s_may_be(self):
        self.assertEqual(run(edit(0, 0, "a" * 512), counts()), [[0, 0, 0, 1], [0, 512, 1, 0]])
        self.assertEqual(run(edit(0, 0, "a" * 513), counts()), [[-2], [0, 0, 0, 0]])
        self.assertEqual(run(edit(0, 0, "a" * 2000), counts()), [[-2], [0, 0, 0, 0]])

    def test_how_long_the_text_may_be(self):
        full = edit(0, 0, "a" * 512)
        self.assertEqual(run(full, edit(512, 0, "b"), counts())[1:], [[-2], [0, 512, 1, 0]])
        self.assertEqual(run(full, edit(0, 1, "bb"), counts())[1:], [[-2], [0, 512, 1, 0]])
        self.assertEqual(run(full, edit(0, 1, "b"), counts())[1:], [[0, 0, 1, 1], [0, 512, 1, 0]])
        self.assertEqual(run(full, edit(0, 512, "b" * 512), counts())[1:], [[0, 0, 1, 1], [0, 512, 1, 0]])
        self.assertEqual(run(full, edit(0, 512, "b" * 513), counts())[1:], [[-2], [0, 512, 1, 0]])
        self.assertEqual(run(edit(0, 0, "a" * 511), edit(0, 0, "b"), counts())[1:], [[0, 0, 1, 1], [0, 512, 1, 0]])

    def test_the_first_that_holds(self):
        self.assertEqual(run(edit(1, 0, "a" * 513)), [[-1]])
        self.assertEqual(run(edit(0, 0, "a" * 512), edit(512, 1, "b")), [[0, 0, 0, 1], [-1]])

    def test_nothing_changes(self):
        calls = [rule(NAME), rule(BLANKS), edit(0, 0, "one two")]
        refused = calls + [edit(8, 0, "x"), edit(0, 0, "x" * 506), edit(0, 7, "x" * 513)]
        self.assertEqual(run(*refused)[3:], [[-1], [-2], [-2]])
        self.assertEqual(run(*refused, counts())[-1], run(*calls, counts())[-1])
        self.assertEqual(told_tokens(*refused), told_tokens(*calls))
        self.assertEqual(run(*refused, edit(4, 3, "x"))[-1], [0, 2, 1, 1])

    def test_no_such_token(self):
        given = run(rule(NAME), edit(0, 0, "a.b"), token(2), token(3), token(ANYTHING), counts())
        self.assertEqual(given[2:], [[0, 2, 1, 1], [-1], [-1], [0, 3, 3, 1]])


class ByTheWords(unittest.TestCase):
    """Rows of edits; each answer is held against the whole text, scanned as the document says it."""

    def follow(self, rules, edits):
        calls = [rule(nodes) for nodes in rules]
        text = []
        before = []
        for at, remove, s in edits:
            text = text[:at] + row(s) + text[at + remove:]
            tokens = scan_by_words(text, rules)
            after = pieces(text, tokens)
            calls.append(edit(at, remove, s))
            self.assertEqual(run(*calls)[-1], [0] + change_by_words(before, after), calls)
            self.assertEqual(run(*calls, counts())[-1], [0, len(text), len(tokens), len(rules)], calls)
            self.assertEqual(told_tokens(*calls), tokens, calls)
            self.mend(before, after, run(*calls)[-1])
            before = after

    def mend(self, before, after, answer):
        first, gone, come = answer[1:]
        mended = before[:first] + after[first:first + come] + before[first + gone:]
        self.assertEqual(mended, after)

    def test_edits_in_a_row(self):
        self.follow([word("if"), NAME, NUMBER, BLANKS, QUOTED], [
            (0, 0, "if x1 'a"), (8, 0, " b' y"), (0, 0, "i"), (1, 2, ""), (3, 1, "'"), (0, 3, "if "), (7, 3, "??"),
            (11, 0, ""), (5, 1, "y"), (0, 11, "'"), (0, 1, ""), (0, 0, "12ab")])

    def test_edits_within_a_remark(self):
        self.follow([REMARK, NAME, BLANKS, word("*")], [
            (0, 0, "a /* b */ c"), (3, 1, ""), (3, 0, "*"), (9, 0, " d */"), (8, 2, ""), (0, 2, ""), (0, 1, "")])

    def test_edits_of_all_forms(self):
        source = random.Random(4)
        for _ in range(120):
            rules = [some_rule(source) for _ in range(source.randrange(4))]
            size = 0
            edits = []
            for _ in range(6):
                at = source.choice([0, size, source.randrange(size + 1)])
                remove = source.choice([0, size - at, source.randrange(size - at + 1)])
                s = "".join(source.choice("abc") for _ in range(source.randrange(7)))
                edits.append((at, remove, s))
                size += len(s) - remove
            self.follow(rules, edits)


if __name__ == "__main__":
    unittest.main()
