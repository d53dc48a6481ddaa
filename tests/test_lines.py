"""Whole lines of calls in any order, compared with a slow grammar of the tests' own."""

import random
import unittest

from tests.helper import (BEGIN, LEAST, MOST, NEXT, TWO_TO_64, count, kind, line, rule, short, slow_counts, slow_kinds,
                          slow_next, slow_texts, slow_trees, text, told, tower, tree)
from treewords.grammar import answers

LONGEST = 4
MOST_TREES = 200

# One of each call that changes nothing, with an answer and with a refusal where there are both.
ASKED = (count(0, 0, 1), count(1, 0, 1), count(0, 1, 0), tree(0), tree(1), tree(2), tree(0, 0), NEXT, short(0), short(1),
         short(0, 0), short(9), kind(0), kind(1), kind("a"), kind(-1))

# One of each call, those that change something too.
EACH = (BEGIN, rule(0, "b", 0), text(0, "aa"), count(0, 0, 1), tree(1), NEXT, short(0), kind(0))

REFUSED = (rule(256), rule(-1), rule(0, 512), rule(0, 0, -1), text(256, "b"), text(-1, ""), count(512, 0, 0), count(0, 1, 0),
           tree(TWO_TO_64 - 1), tree(0, 0), tree(0, 65537), short(-1), short(0, 0), short(9), kind(-1), kind(512))

SMALL = (BEGIN, rule(0, "a"), rule(0, 1), rule(1, "a"), rule(1, 2, 1), rule(2, "a"), text(0, "a"))


class Handed(list):
    """A list that says so if one changes it."""

    def changed(self, *arguments, **named):
        raise AssertionError("what was handed in is changed")

    append = clear = extend = insert = pop = remove = reverse = sort = changed
    __setitem__ = __delitem__ = __iadd__ = __imul__ = changed


class SlowGrammar:
    """The document's words done one after another. None stands for an answer that would take too long."""

    def __init__(self, kept):
        self.kept = kept
        self.begin()

    def begin(self):
        self.rules, self.signs, self.start = [], "", 0
        return [0]

    def once(self, way, *arguments):
        key = (way.__name__, repr(arguments))
        if key not in self.kept:
            self.kept[key] = way(*arguments)
        return self.kept[key]

    def rule(self, left, right):
        if not 0 <= left <= 255 or not all(0 <= symbol <= 511 for symbol in right):
            return [-1]
        self.rules = self.rules + [(left, right)]
        self.signs = ""
        return [len(self.rules) - 1]

    def trees(self, symbol, i, j):
        if symbol >= 256:
            return [0, int(self.signs[i:j] == chr(symbol - 256))]
        return self.once(slow_counts, self.rules, self.signs).get((symbol, i, j), [0, 0])

    def text(self, start, numbers):
        if not 0 <= start <= 255:
            return [-1]
        self.start, self.signs = start, "".join(chr(number) for number in numbers)
        return [int(self.trees(start, 0, len(numbers)) != [0, 0])]

    def count(self, symbol, i, j):
        if not 0 <= symbol <= 511 or not 0 <= i <= j <= len(self.signs):
            return [-1]
        return self.trees(symbol, i, j)

    def tree(self, k, most):
        trees = self.trees(self.start, 0, len(self.signs))
        if trees == [1] or trees[1] <= k:
            return [-1]
        if not 1 <= most <= 65536:
            return [-2]
        if trees[1] > MOST_TREES:
            return None
        numbers = self.once(slow_trees, self.rules, self.signs, self.start)[k]
        return [-2] if len(numbers) > most else [len(numbers)] + numbers

    def next(self):
        found = self.once(slow_next, self.rules, self.signs, self.start)
        row = [len(found)] + [0] * 32
        for number in found:
            row[1 + number // 8] |= 1 << number % 8
        return row

    def short(self, symbol, most):
        if not 0 <= symbol <= 511 or self.kind(symbol) == [0]:
            return [-1]
        made = {(symbol - 256,)} if symbol >= 256 else self.once(slow_texts, self.rules, LONGEST).get(symbol)
        if not made:
            return None
        first = min(made, key=lambda one: (len(one), one))
        return [-2] if len(first) > (most if 1 <= most <= 65536 else 0) else [len(first)] + list(first)

    def kind(self, symbol):
        if not 0 <= symbol <= 511:
            return [-1]
        return [1] if symbol >= 256 else [self.once(slow_kinds, self.rules, range(256))[symbol]]

    def answer(self, call):
        ways = (self.begin, self.rule, self.text, self.count, self.tree, self.next, self.short, self.kind)
        if call[0] in (1, 2):
            return ways[call[0]](call[1], call[3:])
        return ways[call[0]](*call[1:])


def slowly_told(calls, kept=None):
    grammar = SlowGrammar({} if kept is None else kept)
    return [grammar.answer(call) for call in calls]


def round_trip(size):
    """Numbers from 0 back to 0, each below size, such that each comes just once right behind each other one."""
    left = {number: [other for other in range(size) if other != number] for number in range(size)}
    way = [0]
    trip = []
    while way:
        if left[way[-1]]:
            way.append(left[way[-1]].pop())
        else:
            trip.append(way.pop())
    return trip[::-1]


class LineCase(unittest.TestCase):

    def check(self, calls, kept=None):
        """How many answers there are, and how many of them the slow grammar left open."""
        rows = told(*calls)
        asked = slowly_told(calls, kept)
        for at, row in enumerate(asked):
            if row is not None:
                self.assertEqual(rows[at], row, (calls[:at + 1]))
        return len(asked), asked.count(None)


class Order(LineCase):

    def test_every_call_behind_every_other(self):
        kept = {}
        for one in EACH:
            for other in EACH:
                with self.subTest(one=one, other=other):
                    self.check((*SMALL, one, other, *ASKED), kept)
                    self.check((*SMALL, one, one, other, *ASKED), kept)

    def test_every_call_behind_every_other_in_one_line(self):
        numbers = round_trip(8)
        self.assertEqual(sorted(zip(numbers, numbers[1:])), [(i, j) for i in range(8) for j in range(8) if i != j])
        calls = [EACH[number] for number in numbers]
        self.assertTrue(len(calls) <= 60 and numbers.count(1) <= 8)
        self.check(calls)

    def test_a_refused_call_changes_nothing(self):
        asked = told(*SMALL, *ASKED)[len(SMALL):]
        for refused in REFUSED:
            with self.subTest(refused=refused):
                rows = told(*SMALL, refused, *ASKED)[len(SMALL):]
                self.assertEqual(len(rows[0]), 1)
                self.assertLess(rows[0][0], 0)
                self.assertEqual(rows[1:], asked)

    def test_asking_changes_nothing(self):
        asked = told(*SMALL, *ASKED)[len(SMALL):]
        for call in ASKED:
            with self.subTest(call=call):
                self.assertEqual(told(*SMALL, call, *ASKED)[len(SMALL) + 1:], asked)

    def test_every_call_at_a_lines_end(self):
        for call in EACH + ASKED + REFUSED:
            with self.subTest(call=call):
                self.check((*SMALL, call))

    def test_every_call_alone(self):
        for call in EACH + ASKED + REFUSED:
            with self.subTest(call=call):
                self.check((call,))


class HandedIn(LineCase):

    def test_it_is_the_same_afterwards_and_meanwhile(self):
        calls = Handed(line(*SMALL, *EACH[1:], text(0, "a"), *ASKED, *REFUSED[2:], BEGIN))
        before = list(calls)
        answers(calls)
        self.assertEqual(list(calls), before)

    def test_what_is_given_back_may_be_changed(self):
        calls = line(*SMALL, *ASKED)
        first = answers(calls)
        asked = list(first)
        first.reverse()
        self.assertEqual(answers(calls), asked)

    def test_nothing_is_kept_from_one_time_to_the_next(self):
        one = line(*SMALL, *ASKED)
        other = line(BEGIN, rule(0), rule(0, 0), text(3, "b"), *ASKED)
        first = answers(one)
        second = answers(other)
        self.assertNotEqual(first, second)
        self.assertEqual([answers(one), answers(other), answers(one)], [first, second, first])
        self.assertEqual(told(*ASKED), slowly_told(ASKED))

    def test_answers_are_plain_whole_numbers(self):
        numbers = answers(line(*SMALL, *ASKED, *EACH[1:], *ASKED, *REFUSED[2:]))
        self.assertEqual({type(number) for number in numbers}, {int})
        self.assertIs(type(numbers), list)


class AnyLines(LineCase):

    def some_rule(self, source):
        if source.random() < 0.1:
            return source.choice(REFUSED[:4])
        size = source.choice((0, 0, 1, 1, 1, 2, 2, 2))
        return rule(source.randint(0, 2), *[source.choice((0, 1, 2, 2, 353, 353, 354)) for part in range(size)])

    def some_call(self, source):
        name = source.choice((0, 0, 1, 1, 2, 2, 3, 255, 256, 353, 354, 511, 512, -1, LEAST, MOST))
        most = source.choice((65536, 65536, 100, 7, 5, 4, 3, 2, 1, 0, -1, 65535, 65537, LEAST, MOST))
        which = source.choice((2, 2, 3, 3, 4, 4, 4, 5, 6, 7))
        if which == 2:
            return text(source.choice((0, 0, 1, 2, name)), "".join(source.choice("aab") for at in range(source.randint(0, 3))))
        if which == 3:
            return count(name, source.randint(-1, 2), source.randint(0, 4))
        if which == 4:
            return tree(source.choice((0, 0, 0, 1, 1, 2, 3, 5, 9, TWO_TO_64 - 1)), most)
        return (NEXT, short(name, most), kind(name))[which - 5]

    def some_line(self, source):
        """60 calls, 8 of rule: most of these at the beginning, some of them later."""
        early = source.randint(2, 8)
        calls = [self.some_call(source) for number in range(59 - early)]
        for number in range(8 - early):
            calls[source.randrange(len(calls))] = self.some_rule(source)
        if source.random() < 0.2:
            calls[source.randrange(40, len(calls))] = BEGIN
        return [BEGIN] + [self.some_rule(source) for number in range(early)] + calls

    def test_many_lines_of_60_calls(self):
        source = random.Random(5)
        checked = 0
        left_open = 0
        for number in range(200):
            calls = self.some_line(source)
            self.assertEqual(len(calls), 60)
            self.assertLessEqual(len([call for call in calls if call[0] == 1]), 8)
            some, none = self.check(calls)
            checked += some
            left_open += none
        self.assertLess(left_open * 100, checked)


class LongAnswers(unittest.TestCase):

    def test_60_calls_with_the_longest_answers(self):
        calls = [BEGIN, rule(0, *[1] * 15), *tower(3, 1), rule(4), rule(4, "b"), rule(4, "a", "a"), text(0, "")]
        calls += [tree(0), short(0), NEXT] * 17
        self.assertEqual(len(calls), 60)
        rows = told(*calls)
        self.assertEqual([len(row) for row in rows[9:]], [65537, 1, 33] * 17)
        self.assertEqual(rows[9:12] * 17, rows[9:])
        self.assertEqual(sorted(rows[9][1:]), [0] + [1] * 15 + [2] * 240 + [3] * 3840 + [4] * 61440)

    def test_60_calls_with_the_longest_texts(self):
        calls = [BEGIN, *tower(3), rule(3, *"ba" * 8), text(0, "")] + [short(0)] * 54
        self.assertEqual(len(calls), 60)
        self.assertEqual(told(*calls)[6:], [[65536] + [98, 97] * 32768] * 54)


if __name__ == "__main__":
    unittest.main()
