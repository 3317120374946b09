"""The call match: what each kind of node matches, how far, and how each refusal is told."""

import random
import unittest

from support import (ANYTHING, alt, byte, counts, edit, length_by_words, many, match, nothing, rule, run, seq, some,
                     token, word)


def matched(nodes, *texts):
    return [answer[0] for answer in run(rule(nodes), *[match(0, s) for s in texts])[1:]]


class Kinds(unittest.TestCase):
    def test_byte(self):
        self.assertEqual(matched([byte("b", "d")], "a", "b", "c", "d", "e", "bb", ""), [-1, 1, 1, 1, -1, 1, -1])

    def test_seq(self):
        self.assertEqual(matched(word("abc"), "abc", "abcd", "ab", "xabc", "acb"), [3, 3, -1, -1, -1])

    def test_seq_keeps_the_order_of_its_parts(self):
        self.assertEqual(matched([byte("a"), byte("b"), seq(1, 0)], "ab", "ba"), [-1, 2])

    def test_alt(self):
        self.assertEqual(matched([byte("a"), byte("b"), alt(0, 1)], "a", "b", "c", "ab"), [1, 1, -1, 1])

    def test_alt_takes_the_longer_of_its_parts(self):
        nodes = [byte("a"), byte("b"), seq(0, 1)]
        self.assertEqual(matched(nodes + [alt(0, 2)], "ab", "a"), [2, 1])
        self.assertEqual(matched(nodes + [alt(2, 0)], "ab", "a"), [2, 1])

    def test_many(self):
        nodes = [byte("a"), many(0), byte("b"), seq(1, 2)]
        self.assertEqual(matched(nodes, "b", "ab", "aaab", "aaa", "", "ba"), [1, 2, 4, -1, -1, 1])

    def test_many_of_a_longer_text(self):
        nodes = [byte("a"), byte("b"), seq(0, 1), many(2), seq(2, 3)]
        self.assertEqual(matched(nodes, "ababab", "ababa", "a", "aba"), [6, 4, -1, 2])

    def test_nothing_in_a_seq(self):
        self.assertEqual(matched([nothing(), byte("a"), seq(0, 1)], "a", "b", "aa"), [1, -1, 1])
        self.assertEqual(matched([nothing(), byte("a"), seq(1, 0)], "a", "b", "aa"), [1, -1, 1])

    def test_nothing_in_an_alt(self):
        for choice in (alt(0, 1), alt(1, 0)):
            nodes = [nothing(), byte("a"), choice, byte("b"), seq(2, 3)]
            self.assertEqual(matched(nodes, "ab", "b", "a", "aab"), [2, 1, -1, -1])

    def test_what_matches_the_empty_text_at_the_end(self):
        nodes = [byte("a"), many(0), seq(1, 1), byte("b"), seq(3, 2)]
        self.assertEqual(matched(nodes, "b", "bb", "baa"), [1, 1, 3])
        self.assertEqual(matched([byte("a"), many(0), byte("b"), seq(2, 1)], "b", "ba"), [1, 2])
        self.assertEqual(matched([byte("a"), nothing(), alt(0, 1), byte("b"), seq(3, 2)], "b", "ba"), [1, 2])

    def test_what_is_shorter_is_tried_too(self):
        nodes = [byte("a"), many(0), seq(1, 0), byte("b"), alt(3, 0), seq(2, 4)]
        self.assertEqual(matched(nodes, "aaa", "aab", "aa", "a"), [3, 3, 2, -1])

    def test_the_last_node_is_what_matches(self):
        self.assertEqual(matched([byte("a"), byte("b")], "a", "b", "ab", "ba"), [-1, 1, -1, 1])


class EmptyRounds(unittest.TestCase):
    def test_many_of_nothing(self):
        self.assertEqual(matched([nothing(), many(0), byte("a"), seq(1, 2)], "a", "aa", ""), [1, 1, -1])

    def test_many_of_many(self):
        nodes = [byte("a"), many(0), many(1), byte("b"), seq(2, 3)]
        self.assertEqual(matched(nodes, "aaab", "b", "aaa"), [4, 1, -1])

    def test_many_of_a_choice_with_nothing(self):
        nodes = [byte("a"), nothing(), alt(1, 0), many(2), byte("b"), seq(3, 4)]
        self.assertEqual(matched(nodes, "aab", "b", "aa"), [3, 1, -1])

    def test_many_of_a_seq_of_manies(self):
        nodes = [byte("a"), many(0), byte("b"), many(2), seq(1, 3), many(4), byte("c"), seq(5, 6)]
        self.assertEqual(matched(nodes, "abbaabc", "c", "abba"), [7, 1, -1])


class Nesting(unittest.TestCase):
    def test_several_nodes_refer_to_one(self):
        nodes = [byte("a"), byte("b"), alt(0, 1), seq(2, 2), seq(3, 2), alt(3, 4)]
        self.assertEqual(matched(nodes, "a", "ab", "bab", "baba"), [-1, 2, 3, 3])

    def test_doubled_to_just_the_longest_text(self):
        nodes = [byte("a")] + [seq(k, k) for k in range(9)]
        self.assertEqual(matched(nodes, "a" * 512, "a" * 511), [512, -1])

    def test_doubled_far_beyond_any_text(self):
        nodes = [byte("a")] + [seq(k, k) for k in range(31)]
        self.assertEqual(matched(nodes, "a" * 512), [-1])

    def test_doubled_choices_with_nothing(self):
        nodes = [byte("a"), nothing(), alt(0, 1)] + [seq(k, k) for k in range(2, 30)] + [seq(0, 30)]
        self.assertEqual(matched(nodes, "a" * 512, "a" * 100 + "b"), [512, 100])

    def test_doubled_manies(self):
        nodes = [byte("a"), many(0)] + [seq(k, k) for k in range(1, 30)] + [seq(0, 30)]
        self.assertEqual(matched(nodes, "a" * 512, "a" * 100 + "b"), [512, 100])

    def test_many_within_many(self):
        nodes = [byte("a")] + [many(k) for k in range(30)] + [seq(0, 30)]
        self.assertEqual(matched(nodes, "a" * 512, "a" * 100 + "b"), [512, 100])


class AnyBytes(unittest.TestCase):
    def test_first_and_last_byte(self):
        self.assertEqual(matched([byte(0)], [0], [1], [255], [0, 0]), [1, -1, -1, 1])
        self.assertEqual(matched([byte(255)], [255], [254], [0]), [1, -1, -1])
        self.assertEqual(matched([byte(128, 255)], [127], [128], [255], [0]), [-1, 1, 1, -1])

    def test_the_whole_range(self):
        self.assertEqual(matched(some(0, 255), range(256), [255, 0, 10, 13, 0]), [256, 5])

    def test_each_byte_is_one_byte(self):
        for value in range(256):
            given = matched([byte(value)], *[[other] for other in range(256)])
            self.assertEqual(given, [1 if other == value else -1 for other in range(256)])


class Refusals(unittest.TestCase):
    def test_no_such_rule(self):
        self.assertEqual(run(match(0, "a")), [[-2]])
        given = run(rule(word("a")), match(1, "a"), match(ANYTHING, "a"), match(0, "a"))
        self.assertEqual(given[1:], [[-2], [-2], [1]])

    def test_how_long_s_may_be(self):
        given = matched(some("a", "a"), "a" * 511, "a" * 512, "a" * 513, "a" * 2000)
        self.assertEqual(given, [511, 512, -3, -3])

    def test_matches_nothing(self):
        self.assertEqual(matched(word("ab"), "", "b", "a", "ba"), [-1] * 4)

    def test_the_first_that_holds(self):
        self.assertEqual(run(match(0, "a" * 513)), [[-2]])
        self.assertEqual(matched(word("ab"), "b" * 513), [-3])

    def test_each_rule_by_its_number(self):
        given = run(rule(word("a")), rule(word("ab")), rule(word("b")), *[match(k, "ab") for k in range(3)])
        self.assertEqual(given[3:], [[1], [2], [-1]])

    def test_the_text_has_no_part_in_it(self):
        calls = [rule(some("a", "a")), edit(0, 0, "aab")]
        given = run(*calls, match(0, "aaaa"), match(0, "b"), match(3, ""), counts(), token(0))
        self.assertEqual(given[2:], [[4], [-1], [-2], [0, 3, 2, 1], [0, 0, 2, 1]])


class ByTheWords(unittest.TestCase):
    def test_expressions_of_all_forms(self):
        source = random.Random(6)
        for _ in range(1500):
            nodes = [byte("a"), byte("b"), nothing()]
            for place in range(3, source.randrange(4, 14)):
                a, b = source.randrange(place), source.randrange(place)
                nodes.append(source.choice([seq(a, b), seq(a, b), alt(a, b), many(a), byte("a", "b")]))
            s = "".join(source.choice("aab") for _ in range(source.randrange(9)))
            if length_by_words(nodes, "") is not None:
                self.assertEqual(run(rule(nodes)), [[-4]], nodes)
            else:
                self.assertEqual(matched(nodes, s), [length_by_words(nodes, s) or -1], (nodes, s))


if __name__ == "__main__":
    unittest.main()
