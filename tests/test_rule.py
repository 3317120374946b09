"""The call rule: which rows of nodes are taken, and how each refusal is told."""

import unittest

from support import (ALT, ANYTHING, BYTE, MANY, NOTHING, SEQ, alt, byte, counts, edit, many, match, nothing, rule,
                     rule_of_numbers, run, seq, some, token, told_tokens, word)


class Taken(unittest.TestCase):
    def test_rules_are_numbered_in_order(self):
        given = run(*[rule([byte(k)]) for k in range(8)], counts())
        self.assertEqual(given, [[k] for k in range(8)] + [[0, 0, 0, 8]])

    def test_same_rule_may_come_again(self):
        self.assertEqual(run(rule(word("ab")), rule(word("ab"))), [[0], [1]])

    def test_thirty_two_nodes_are_taken(self):
        self.assertEqual(run(rule([byte("a")] * 32)), [[0]])

    def test_numbers_that_a_kind_does_not_name_may_be_anything(self):
        nodes = [(NOTHING, 300, 2, ANYTHING, 7), (BYTE, 97, 97, 9, ANYTHING), (MANY, 300, 2, 1, ANYTHING),
                 (SEQ, 300, 2, 1, 2), (ALT, ANYTHING, 0, 3, 3)]
        self.assertEqual(run(rule(nodes), match(0, "aab")), [[0], [2]])

    def test_ranges_up_to_the_last_byte(self):
        for lo, hi in [(0, 0), (0, 255), (255, 255), (97, 98)]:
            self.assertEqual(run(rule([byte(lo, hi)])), [[0]])

    def test_parts_up_to_the_node_just_before(self):
        self.assertEqual(run(rule([byte("a"), seq(0, 0), alt(1, 0), alt(0, 2)])), [[0]])

    def test_unused_nodes_may_match_the_empty_text(self):
        self.assertEqual(run(rule([nothing(), byte("a")])), [[0]])

    def test_rules_can_be_added_once_the_text_is_empty_again(self):
        given = run(rule(word("a")), edit(0, 0, "ab"), rule(word("b")), edit(0, 2, ""), rule(word("b")), counts())
        self.assertEqual([given[0], given[2], given[4], given[5]], [[0], [-1], [1], [0, 0, 0, 2]])


class NotAnExpression(unittest.TestCase):
    def refused(self, numbers, number=-3):
        self.assertEqual(run(rule_of_numbers(numbers), counts()), [[number], [0, 0, 0, 0]], numbers)

    def test_how_many_numbers(self):
        a = [BYTE, 97, 97, 0, 0]
        for numbers in ([], a[:1], a[:4], a + a[:1], a + a[:4], a * 33, a * 32 + a[:1], a * 31 + a[:4], a * 200):
            self.refused(numbers)

    def test_kinds_above_four(self):
        for kind in (5, 6, 255, 256, ANYTHING):
            self.refused([BYTE, 97, 97, 0, 0, kind, 97, 97, 0, 0])

    def test_ranges(self):
        for lo, hi in [(1, 0), (255, 254), (0, 256), (256, 256), (256, 255), (ANYTHING, ANYTHING), (97, 97 + 256)]:
            self.refused([BYTE, lo, hi, 0, 0])

    def test_parts_that_do_not_come_before(self):
        a = [BYTE, 97, 97, 0, 0]
        for kind in (SEQ, ALT):
            for part in (1, 2, ANYTHING):
                self.refused(a + [kind, 0, 0, 0, part] + a)
                self.refused(a + [kind, 0, 0, part, 0] + a)
            self.refused([kind, 0, 0, 0, 0])
        for part in (1, 2, ANYTHING):
            self.refused(a + [MANY, 0, 0, part, 0] + a)
        self.refused([MANY, 0, 0, 0, 0])

    def test_a_wrong_node_counts_where_nothing_refers_to_it(self):
        self.refused([5, 0, 0, 0, 0] + [BYTE, 97, 97, 0, 0])
        self.refused([BYTE, 98, 97, 0, 0] + [BYTE, 97, 97, 0, 0])


class MatchesTheEmptyText(unittest.TestCase):
    def test_refused(self):
        for nodes in ([nothing()], [byte("a"), many(0)], [byte("a"), nothing(), alt(0, 1)],
                      [byte("a"), nothing(), alt(1, 0)], [nothing(), seq(0, 0)], [nothing(), many(0)],
                      [byte("a"), many(0), seq(1, 1)], [byte("a"), many(0), many(1)]):
            self.assertEqual(run(rule(nodes), counts()), [[-4], [0, 0, 0, 0]], nodes)

    def test_taken(self):
        for nodes in ([byte("a"), nothing(), seq(0, 1)], [byte("a"), nothing(), seq(1, 0)],
                      [byte("a"), many(0), seq(1, 0)], [byte("a"), byte("b"), alt(0, 1)]):
            self.assertEqual(run(rule(nodes)), [[0]], nodes)


class TheFirstThatHolds(unittest.TestCase):
    def test_a_text_comes_first(self):
        given = run(*[rule([byte(k)]) for k in range(8)], edit(0, 0, "x"), rule([]), rule([nothing()]))
        self.assertEqual(given[-2:], [[-1], [-1]])
        given = run(edit(0, 0, "x"), rule([byte("a")]), rule([]), rule([nothing()]))
        self.assertEqual(given[1:], [[-1], [-1], [-1]])

    def test_eight_rules_come_before_what_is_wrong_with_the_nodes(self):
        given = run(*[rule([byte(k)]) for k in range(8)], rule([byte("a")]), rule([]), rule([nothing()]))
        self.assertEqual(given[-3:], [[-2], [-2], [-2]])

    def test_the_nodes_form_comes_before_the_empty_text(self):
        self.assertEqual(run(rule([(5, 0, 0, 0, 0), nothing()])), [[-3]])
        self.assertEqual(run(rule([nothing()] * 33)), [[-3]])

    def test_nothing_changes(self):
        calls = [rule(word("ab")), edit(0, 0, "abxab")]
        refused = calls + [rule([byte("x")])]
        self.assertEqual(run(*refused, counts())[-1], run(*calls, counts())[-1])
        self.assertEqual(told_tokens(*refused), told_tokens(*calls))
        given = run(rule(some("a", "b")), rule([]), rule([nothing()]), match(0, "abc"), match(1, "a"),
                    rule(word("c")), edit(0, 0, "abcx"), token(1))
        self.assertEqual(given[3:], [[2], [-2], [1], [0, 0, 0, 3], [0, 2, 1, 2]])


if __name__ == "__main__":
    unittest.main()
