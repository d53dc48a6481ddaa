import random
import unittest

from tests.helper import BEGIN, NEXT, as_calls, last, rule, slow_next, some_rules, text, told


def bytes_told(row):
    """The bytes that a row of 33 numbers tells, by its bits."""
    return [number for number in range(256) if row[1 + number // 8] >> number % 8 & 1]


class NextCase(unittest.TestCase):

    def check(self, row, signs):
        self.assertEqual(len(row), 33, row)
        self.assertTrue(all(0 <= number <= 255 for number in row[1:]), row)
        self.assertEqual(bytes_told(row), sorted(ord(sign) for sign in signs))
        self.assertEqual(row[0], len(signs))

    def next_of(self, *calls):
        row = last(*calls, NEXT)
        self.assertEqual(row[0], len(bytes_told(row)))
        return "".join(chr(number) for number in bytes_told(row))


class Form(NextCase):

    def test_none(self):
        self.assertEqual(last(BEGIN, NEXT), [0] * 33)

    def test_the_outermost_bytes(self):
        row = last(BEGIN, rule(0, 256), rule(0, 511), NEXT)
        self.assertEqual(row, [2, 1] + [0] * 30 + [128])

    def test_bits(self):
        self.assertEqual(last(BEGIN, rule(0, 256 + 7), rule(0, 256 + 8), rule(0, 256 + 10), NEXT), [3, 128, 5] + [0] * 30)
        for number in range(256):
            row = [1] + [0] * 32
            row[1 + number // 8] = 1 << number % 8
            self.assertEqual(last(BEGIN, rule(0, 256 + number), NEXT), row)

    def test_a_byte_that_may_come_in_several_ways_counts_once(self):
        calls = (BEGIN, rule(0, "a"), rule(0, "a", "b"), rule(0, 0, "a"), rule(0, 1), rule(1, "a"))
        self.check(last(*calls, NEXT), "a")

    def test_many_bytes(self):
        calls = [BEGIN] + [rule(0, 256 + 2 * number) for number in range(128)]
        self.assertEqual(last(*calls, NEXT), [128] + [0b01010101] * 32)


class Texts(NextCase):

    def test_the_empty_text(self):
        self.assertEqual(self.next_of(BEGIN, rule(0, "a", "b"), rule(0, "c"), rule(0)), "ac")
        self.assertEqual(self.next_of(BEGIN, rule(0, "a", "b"), rule(0, "c"), rule(0), text(0, "")), "ac")

    def test_a_text_of_6(self):
        calls = (BEGIN, rule(0, "a", 0), rule(0, 1), rule(1, "b", 1), rule(1, "c"))
        self.assertEqual(self.next_of(*calls, text(0, "aaaaaa")), "abc")
        self.assertEqual(self.next_of(*calls, text(0, "aaaaab")), "bc")
        self.assertEqual(self.next_of(*calls, text(0, "aaaaac")), "")
        self.assertEqual(self.next_of(*calls, text(0, "abaaaa")), "")

    def test_every_beginning_of_a_word(self):
        word = "abcdefg"
        for size in range(7):
            self.assertEqual(self.next_of(BEGIN, rule(0, *word), text(0, word[:size])), word[size])

    def test_a_text_that_the_start_makes(self):
        calls = (BEGIN, rule(0, "a"), rule(0, "a", "b"), rule(0, "a", "c", "d"))
        self.assertEqual(told(*calls, text(0, "a"))[-1], [1])
        self.assertEqual(self.next_of(*calls, text(0, "a")), "bc")
        self.assertEqual(self.next_of(*calls, text(0, "ab")), "")
        self.assertEqual(self.next_of(*calls, text(0, "ac")), "d")

    def test_a_text_that_nothing_begins_with(self):
        calls = (BEGIN, rule(0, "a", 0, "b"), rule(0))
        self.assertEqual(self.next_of(*calls, text(0, "b")), "")
        self.assertEqual(self.next_of(*calls, text(0, "aba")), "")
        self.assertEqual(self.next_of(*calls, text(0, "aab")), "b")
        self.assertEqual(self.next_of(*calls, text(0, "aa")), "ab")
        self.assertEqual(self.next_of(*calls, text(0, "aabb")), "")

    def test_the_outermost_bytes_in_the_text(self):
        calls = (BEGIN, rule(0, 256, 511, 0), rule(0))
        self.assertEqual(self.next_of(*calls, text(0, "\0")), "\xff")
        self.assertEqual(self.next_of(*calls, text(0, "\0\xff")), "\0")

    def test_start_and_text_are_those_that_text_and_rule_leave(self):
        rows = told(BEGIN, rule(1, "a", "b"), rule(0, "c"), NEXT, text(1, "a"), NEXT, rule(2, "d"), NEXT, text(2, "a"),
                    NEXT, text(2, ""), NEXT, text(256, "a"), NEXT, rule(-1), NEXT, BEGIN, rule(0, "e"), rule(2, "f"), NEXT)
        for at, signs in ((3, "c"), (5, "b"), (7, "a"), (9, ""), (11, "d"), (13, "d"), (15, "d"), (19, "e")):
            with self.subTest(at=at):
                self.check(rows[at], signs)

    def test_a_name_without_a_rule_as_the_start(self):
        self.assertEqual(self.next_of(BEGIN, rule(0, "a"), text(7, "")), "")


class Grammars(NextCase):

    def test_rules_for_nothing(self):
        calls = (BEGIN, rule(0, 1, 2, 1, "d"), rule(1), rule(1, "a"), rule(2), rule(2, "b", 2))
        self.assertEqual(self.next_of(*calls), "abd")
        self.assertEqual(self.next_of(*calls, text(0, "a")), "abd")
        self.assertEqual(self.next_of(*calls, text(0, "aa")), "d")
        self.assertEqual(self.next_of(*calls, text(0, "abb")), "abd")

    def test_left_recursion(self):
        calls = (BEGIN, rule(0, 0, "+", 1), rule(0, 1), rule(1, "1"), rule(1, "(", 0, ")"))
        self.assertEqual(self.next_of(*calls), "(1")
        self.assertEqual(self.next_of(*calls, text(0, "1")), "+")
        self.assertEqual(self.next_of(*calls, text(0, "(1")), ")+")
        self.assertEqual(self.next_of(*calls, text(0, "((1+1)")), ")+")
        self.assertEqual(self.next_of(*calls, text(0, "1+")), "(1")
        self.assertEqual(self.next_of(*calls, text(0, ")")), "")

    def test_left_recursion_behind_nothing(self):
        calls = (BEGIN, rule(0, 1, 0, "a"), rule(0, "b"), rule(1), rule(1, "c"))
        self.assertEqual(self.next_of(*calls), "bc")
        self.assertEqual(self.next_of(*calls, text(0, "cb")), "a")
        self.assertEqual(self.next_of(*calls, text(0, "cbaa")), "a")
        self.assertEqual(self.next_of(*calls, text(0, "b")), "a")

    def test_rules_in_circles(self):
        calls = (BEGIN, rule(0, 1), rule(1, 2), rule(2, 0), rule(1, "a", 0), rule(2, "b"))
        self.assertEqual(self.next_of(*calls), "ab")
        self.assertEqual(self.next_of(*calls, text(0, "aa")), "ab")
        self.assertEqual(self.next_of(*calls, text(0, "ab")), "")
        calls = (BEGIN, rule(0, 0, 0), rule(0), rule(0, "a"))
        self.assertEqual(self.next_of(*calls, text(0, "aaaaaa")), "a")

    def test_a_byte_behind_which_nothing_can_be_finished(self):
        self.assertEqual(self.next_of(BEGIN, rule(0, "a", 1), rule(0, "b")), "b")
        self.assertEqual(self.next_of(BEGIN, rule(0, "a", 1), rule(1, "b", 1), rule(0, "c")), "c")
        self.assertEqual(self.next_of(BEGIN, rule(0, "a", 0)), "")
        self.assertEqual(self.next_of(BEGIN, rule(0, "a", "b", "c", 1), rule(1, 1), text(0, "a")), "")
        self.assertEqual(self.next_of(BEGIN, rule(0, 1, "a"), rule(1, 1), rule(0, "b")), "b")

    def test_what_only_stands_above_it_can_never_be_finished(self):
        calls = (BEGIN, rule(0, 1, 2), rule(1, "a", "b"), rule(0, "c", 1))
        self.assertEqual(self.next_of(*calls), "c")
        self.assertEqual(self.next_of(*calls, text(0, "a")), "")
        self.assertEqual(self.next_of(*calls, text(0, "c")), "a")
        self.assertEqual(self.next_of(*calls, text(1, "a")), "b")

    def test_what_is_behind_may_be_longer_than_anything(self):
        calls = (BEGIN, rule(7, "x", 0), rule(0, *[1] * 16), rule(1, *[2] * 16), rule(2, *[3] * 16), rule(3, *[4] * 16),
                 rule(4, *[5] * 16), rule(5, *[6] * 16), rule(6, "a"))
        self.assertEqual(self.next_of(*calls, text(7, "xaaaaa")), "a")


class AgainstTheSlowWay(NextCase):

    def test_many_small_grammars(self):
        source = random.Random(61)
        met = [0, 0, 0]
        for number in range(800):
            rules = some_rules(source)
            signs = ["".join(source.choice("aab") for place in range(source.randint(0, 4))) for name in range(3)]
            calls = as_calls(rules)
            for name in range(3):
                calls += [text(name, signs[name]), NEXT]
            rows = told(*calls)[2 + len(rules)::2]
            for name in range(3):
                asked = slow_next(rules, signs[name], name)
                self.assertEqual(bytes_told(rows[name]), asked, (rules, signs[name], name))
                self.assertEqual(rows[name][0], len(asked))
                met[len(asked)] += 1
        self.assertTrue(min(met) > 50, met)


if __name__ == "__main__":
    unittest.main()
