"""The interface: how calls are handed in and answers given back, and that nothing is kept or changed."""

import contextlib
import io
import random
import unittest

from editedlex.editor import answers
from support import (ANYTHING, ByWords, byte, counts, edit, find, many, match, nothing, rule, run, seq, some, some_rule,
                     tally, text_from, token, token_at, word)


class Form(unittest.TestCase):
    def test_answers_are_told_with_how_many_they_are(self):
        calls = [1, 5, 1, 97, 97, 0, 0, 2, 0, 2, 97, 97, 3, 0, 0, 3, 97, 98, 97, 4, 5, 2]
        given = [1, 0, 1, 1, 4, 0, 0, 0, 3, 4, 0, 3, 3, 1, 4, 0, 2, 1, 1]
        self.assertEqual(answers(calls), given)
        calls = [1, 5, 1, 97, 97, 0, 0, 3, 0, 0, 3, 98, 97, 255, 6, 1, 7, 0, 1, 8, 1, 9, 1, 2, 9, 3, 0]
        given = [1, 0, 4, 0, 0, 0, 3, 1, 1, 1, 2, 1, 1, 4, 0, 2, 97, 255, 2, 0, 0]
        self.assertEqual(answers(calls), given)

    def test_refusals_stand_alone(self):
        calls = [1, 0, 2, 0, 0, 3, 1, 0, 0, 5, 0, 6, 0, 7, 0, 0, 9, 1, 0, 4]
        self.assertEqual(answers(calls), [1, -3, 1, -2, 1, -1, 1, -1, 1, -1, 1, -1, 1, -1, 4, 0, 0, 0, 0])

    def test_any_call_may_be_first(self):
        for call, answer in [(rule(word("a")), [0]), (match(0, "a"), [-2]), (edit(0, 0, "a"), [0, 0, 0, 1]),
                             (counts(), [0, 0, 0, 0]), (token(0), [-1]), (token_at(0), [-1]), (find(0, 0), [-1]),
                             (tally(0), [0]), (text_from(0, 0), [0, 0])]:
            self.assertEqual(run(call), [answer])
            self.assertEqual(run(call, tally(0))[0], answer)

    def test_a_refused_call_is_passed_over_whole(self):
        given = run(rule([byte("a")] * 33), counts(), edit(0, 0, [4] * 513), counts())
        self.assertEqual(given, [[-3], [0, 0, 0, 0], [-2], [0, 0, 0, 0]])
        self.assertEqual(run(match(0, [5] * 513), counts()), [[-2], [0, 0, 0, 0]])

    def test_whole_numbers_are_given_back(self):
        given = answers(rule(word("ab")) + match(0, "ab") + edit(0, 0, "ab.") + counts() + token(1) + token(9)
                        + token_at(2) + find(1, 0) + find(2, 0) + tally(1) + tally(7) + text_from(1, 2))
        self.assertIs(type(given), list)
        self.assertEqual({type(number) for number in given}, {int})

    def test_four_hundred_calls(self):
        given = run(rule(word("a")), *[edit(0, 0, "a")] * 399)
        self.assertEqual(given, [[0]] + [[0, k, 0, 1] for k in range(399)])

    def test_four_hundred_questions(self):
        given = run(edit(0, 0, "ab"), *[text_from(0, 2), token_at(1), find(0, 0)] * 133)
        self.assertEqual(given, [[0, 0, 0, 1]] + [[0, 2, 97, 98], [0], [0]] * 133)


class AllNine(unittest.TestCase):
    """Lists of all nine calls in any order, held against the document's words call by call."""

    def some_number(self, source):
        return source.choice([0, 1, 2, 3, source.randrange(9), source.randrange(16), ANYTHING])

    def some_s(self, source):
        return [source.choice([97, 97, 98, 0, 255]) for _ in range(source.randrange(9))]

    def some_nodes(self, source):
        return source.choice([some_rule(source)] * 5 + [[nothing()], [byte(2, 1)], [byte(0)], [byte(255)]])

    def some_edit(self, source, size):
        at = source.choice([0, size, source.randrange(size + 1), self.some_number(source)])
        left = max(size - at, 0)
        return edit(at, source.choice([0, left, source.randrange(left + 1), left + 1]), self.some_s(source))

    def some_call(self, source, size):
        number = self.some_number(source)
        other = self.some_number(source)
        return source.choice([
            rule(self.some_nodes(source)), match(number, self.some_s(source)), self.some_edit(source, size), counts(),
            token(number), token_at(number), find(number, other), tally(number), text_from(number, other)])

    def test_in_any_order(self):
        source = random.Random(9)
        begun = set()
        for _ in range(250):
            by_words = ByWords()
            calls = [rule(some_rule(source)) for _ in range(source.randrange(4))]
            given = [by_words.answer(call) for call in calls]
            for _ in range(25):
                calls.append(self.some_call(source, len(by_words.text)))
                given.append(by_words.answer(calls[-1]))
            self.assertEqual(run(*calls), given, calls)
            begun.add(calls[0][0])
        self.assertEqual(begun, set(range(1, 10)))


class Unchanging(list):
    """A list that fails at once when it is changed."""

    def refuse(self, *_):
        raise AssertionError("the list that was handed in is changed")

    append = extend = insert = pop = remove = clear = reverse = sort = refuse
    __setitem__ = __delitem__ = __iadd__ = __imul__ = refuse


class NothingKept(unittest.TestCase):
    CALLS = (rule(some("a", "z")) + edit(0, 0, "ab cd") + edit(1, 2, "x") + match(0, "abc") + counts() + token(0)
             + token_at(3) + find(1, 0) + tally(1) + text_from(0, 4) + edit(4, 0, "!") + text_from(3, 2))

    def test_the_list_is_as_it_was(self):
        calls = list(self.CALLS)
        answers(calls)
        self.assertEqual(calls, self.CALLS)

    def test_the_list_is_not_changed_for_a_while_either(self):
        self.assertEqual(answers(Unchanging(self.CALLS)), answers(self.CALLS))

    def test_twice_the_same(self):
        calls = list(self.CALLS)
        given = answers(calls)
        self.assertEqual(answers(calls), given)
        self.assertEqual(answers(counts() + text_from(0, 1) + tally(1)), [4, 0, 0, 0, 0, 1, -1, 1, 0])

    def test_what_was_given_back_is_the_caller_s(self):
        calls = list(self.CALLS)
        given = answers(calls)
        copy = list(given)
        given.clear()
        self.assertEqual(answers(calls), copy)

    def test_nothing_is_printed(self):
        printed = io.StringIO()
        with contextlib.redirect_stdout(printed), contextlib.redirect_stderr(printed):
            answers(list(self.CALLS))
        self.assertEqual(printed.getvalue(), "")


class Largest(unittest.TestCase):
    def test_the_longest_text_with_the_longest_rule(self):
        nodes = [byte("a", "b"), byte("a"), seq(0, 0), many(2), seq(3, 1), many(4)]
        nodes += [seq(k, k) for k in range(5, 30)] + [seq(1, 30)]
        given = run(rule(nodes), edit(0, 0, "aab" * 170 + "aa"), *[edit(k, 0, "") for k in range(8)], counts())
        self.assertEqual(given[-1], [0, 512, 1, 1])

    def test_places_from_which_the_whole_rest_is_looked_at(self):
        nodes = [byte("a"), many(0), byte("b"), seq(1, 2)]
        given = run(rule(nodes), edit(0, 0, "a" * 511), *[edit(511, 0, "b"), edit(511, 1, "")] * 30)
        self.assertEqual(given[2:], [[0, 0, 1, 1]] * 60)


if __name__ == "__main__":
    unittest.main()
