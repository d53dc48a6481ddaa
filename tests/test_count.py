import random
import unittest

from tests.helper import (BEGIN, LEAST, MOST, TWO_TO_64, as_calls, count, last, rule, slow_counts, some_rules, text,
                          told, tower)

CATALAN = (1, 1, 2, 5, 14, 42, 132)


class Ranges(unittest.TestCase):

    def test_symbol(self):
        asked = ((LEAST, [-1]), (-1, [-1]), (0, [0, 1]), (1, [0, 0]), (255, [0, 1]), (256, [0, 0]), (353, [0, 1]),
                 (511, [0, 0]), (512, [-1]), (MOST, [-1]))
        for symbol, answer in asked:
            with self.subTest(symbol=symbol):
                self.assertEqual(last(BEGIN, rule(0, "a"), rule(255, "a"), text(0, "a"), count(symbol, 0, 1)), answer)

    def test_places(self):
        places = list(range(-2, 6)) + [LEAST, MOST]
        for i in places:
            for j in places:
                asked = [0, 1] if 0 <= i <= j <= 3 else [-1]
                with self.subTest(i=i, j=j):
                    self.assertEqual(last(BEGIN, rule(0, "a", 0), rule(0), text(0, "aaa"), count(0, i, j)), asked)
                    if asked == [-1]:
                        self.assertEqual(last(BEGIN, text(0, "aaa"), count("a", i, j)), [-1])

    def test_places_of_the_empty_text(self):
        rows = told(BEGIN, rule(0), count(0, 0, 0), count(0, 0, 1), count(0, -1, 0), count(0, 1, 1))
        self.assertEqual(rows[2:], [[0, 1], [-1], [-1], [-1]])

    def test_a_refusal_changes_nothing(self):
        rows = told(BEGIN, rule(0, "a"), text(0, "a"), count(512, 0, 1), count(0, 1, 0), count(0, 0, 2), count(0, 0, 1))
        self.assertEqual(rows[3:], [[-1], [-1], [-1], [0, 1]])


class Bytes(unittest.TestCase):

    def test_a_byte_at_places_of_none_one_and_more(self):
        rows = told(BEGIN, text(0, "aba"), count("a", 0, 0), count("a", 3, 3), count("a", 0, 1), count("a", 1, 2),
                    count("a", 2, 3), count("a", 0, 2), count("a", 0, 3), count("b", 1, 2))
        self.assertEqual(rows[2:], [[0, n] for n in (0, 0, 1, 0, 1, 0, 0, 1)])

    def test_the_outermost_bytes(self):
        rows = told(BEGIN, text(0, "\0\xff"), count(256, 0, 1), count(511, 0, 1), count(256, 1, 2), count(511, 1, 2))
        self.assertEqual(rows[2:], [[0, 1], [0, 0], [0, 0], [0, 1]])

    def test_a_byte_is_not_the_name_of_its_number(self):
        rows = told(BEGIN, rule(97, "b"), text(97, "ab"), count(97, 0, 1), count(97, 1, 2), count("b", 1, 2))
        self.assertEqual(rows[3:], [[0, 0], [0, 1], [0, 1]])


class Finite(unittest.TestCase):

    def test_an_ambiguous_grammar(self):
        for size in range(1, 7):
            calls = (BEGIN, rule(0, 0, 0), rule(0, "a"), text(0, "a" * size))
            with self.subTest(size=size):
                self.assertEqual(last(*calls, count(0, 0, size)), [0, CATALAN[size - 1]])
        self.assertEqual(last(BEGIN, rule(0, 0, 0), rule(0, "a"), text(0, "aaa"), count(0, 1, 1)), [0, 0])

    def test_sums(self):
        calls = (BEGIN, rule(0, 0, "+", 0), rule(0, 0, "*", 0), rule(0, "a"), text(0, "a+a*a+"))
        rows = told(*calls, count(0, 0, 5), count(0, 2, 5), count(0, 0, 6), count(0, 0, 1), count(0, 1, 2))
        self.assertEqual(rows[5:], [[0, 2], [0, 1], [0, 0], [0, 1], [0, 0]])

    def test_left_and_right_recursion_together(self):
        calls = (BEGIN, rule(0, 0, "a"), rule(0, "a", 0), rule(0, "a"), text(0, "aaaaaa"))
        rows = told(*calls, *[count(0, 0, size) for size in range(7)])
        self.assertEqual(rows[5:], [[0, n] for n in (0, 1, 2, 4, 8, 16, 32)])

    def test_rules_for_nothing(self):
        calls = (BEGIN, rule(0, 1, 1, 1), rule(1), rule(1, "a"), text(0, "aaaaaa"))
        rows = told(*calls, *[count(0, 2, 2 + size) for size in range(5)])
        self.assertEqual(rows[5:], [[0, n] for n in (1, 3, 3, 1, 0)])

    def test_a_right_of_16_that_shares_6_bytes_out(self):
        calls = (BEGIN, rule(0, *[1] * 16), rule(1), rule(1, "a"), rule(1, "a"), text(0, "aaaaaa"))
        self.assertEqual(last(*calls, count(0, 0, 6)), [0, 8008 * 64])

    def test_names_without_rules(self):
        calls = (BEGIN, rule(0, 1, 0), rule(0, "a"), text(0, "aa"))
        rows = told(*calls, count(0, 0, 1), count(0, 0, 2), count(1, 0, 0))
        self.assertEqual(rows[4:], [[0, 1], [0, 0], [0, 0]])

    def test_the_start_does_not_matter(self):
        rows = told(BEGIN, rule(0, "a"), rule(1, "a"), rule(1, 0), text(7, "a"), count(0, 0, 1), count(1, 0, 1))
        self.assertEqual(rows[5:], [[0, 1], [0, 2]])

    def test_every_piece_of_a_text(self):
        signs = "abbaba"
        calls = [BEGIN, rule(0), rule(0, "a", 0), rule(0, "b", 0), text(0, signs)]
        for i in range(7):
            for j in range(i, 7):
                self.assertEqual(last(*calls, count(0, i, j)), [0, 1])


class Circles(unittest.TestCase):

    def test_circles_that_make_the_text(self):
        self.assertEqual(last(BEGIN, rule(0, 0), rule(0, "a"), text(0, "a"), count(0, 0, 1)), [1])
        self.assertEqual(last(BEGIN, rule(0, 1), rule(1, 0), rule(1, "a"), text(0, "a"), count(0, 0, 1)), [1])
        self.assertEqual(last(BEGIN, rule(0, 0, 0), rule(0), rule(0, "a"), text(0, "a"), count(0, 0, 1)), [1])
        self.assertEqual(last(BEGIN, rule(0, 1, 0), rule(0, "a"), rule(1), text(0, "a"), count(0, 0, 1)), [1])
        self.assertEqual(last(BEGIN, rule(0, 0, 1), rule(0, "a"), rule(1), text(0, "a"), count(0, 0, 1)), [1])

    def test_circles_that_make_nothing(self):
        self.assertEqual(last(BEGIN, rule(0, 0), count(0, 0, 0)), [0, 0])
        self.assertEqual(last(BEGIN, rule(0, 0), text(0, "a"), count(0, 0, 1)), [0, 0])
        self.assertEqual(last(BEGIN, rule(0, 1), rule(1, 0), text(0, "a"), count(1, 0, 1)), [0, 0])
        self.assertEqual(last(BEGIN, rule(0, 0, 0), text(0, "a"), count(0, 0, 1)), [0, 0])

    def test_a_circle_that_stands_beside_the_tree(self):
        calls = (BEGIN, rule(0, "a"), rule(0, 1), rule(1, 1), text(0, "a"))
        self.assertEqual(last(*calls, count(0, 0, 1)), [0, 1])
        calls = (BEGIN, rule(0, "a"), rule(0, 0, 1), rule(1, 1), text(0, "a"))
        self.assertEqual(last(*calls, count(0, 0, 1)), [0, 1])

    def test_a_circle_round_another_piece(self):
        calls = (BEGIN, rule(0, 1, 2), rule(1, 1), rule(1, "a"), rule(2, "b"), text(0, "abb"))
        rows = told(*calls, count(0, 0, 2), count(2, 1, 2), count(0, 1, 2), count(1, 0, 1), count(1, 1, 2))
        self.assertEqual(rows[6:], [[1], [0, 1], [0, 0], [1], [0, 0]])

    def test_endlessly_many_parts_beside_a_part_without_a_tree(self):
        calls = (BEGIN, rule(0, 1, 2), rule(0, 2, 1), rule(0, "a"), rule(1, 1), rule(1), text(0, "a"))
        self.assertEqual(told(*calls, count(0, 0, 1), count(0, 0, 0), count(1, 0, 0))[7:], [[0, 1], [0, 0], [1]])

    def test_a_circle_for_nothing_that_only_some_pieces_need(self):
        calls = (BEGIN, rule(0, "a", 1, "b"), rule(0, "a", "b"), rule(1, "c"), rule(1, 2), rule(2, 2), rule(2), text(0, "abacb"))
        rows = told(*calls, count(0, 0, 2), count(0, 2, 5), count(1, 3, 4), count(2, 1, 1))
        self.assertEqual(rows[8:], [[1], [0, 1], [0, 1], [1]])

    def test_a_rule_of_a_circle_that_is_given_late(self):
        rows = told(BEGIN, rule(0, "a"), text(0, "a"), count(0, 0, 1), rule(0, 0), text(0, "a"), count(0, 0, 1))
        self.assertEqual(rows[3:], [[0, 1], [1], [1], [1]])


class LargeNumbers(unittest.TestCase):

    def test_just_below_and_at_two_to_64(self):
        doubled = (BEGIN, rule(0), rule(0), rule(1, *[0] * 16), rule(2, *[1] * 3), rule(3, 2, *[0] * 15), rule(4, 3, 0))
        rows = told(*doubled, count(1, 0, 0), count(2, 0, 0), count(3, 0, 0), count(4, 0, 0))
        self.assertEqual(rows[7:], [[0, 2 ** 16], [0, 2 ** 48], [0, 2 ** 63], [0, 0]])

    def test_above_two_to_64(self):
        tripled = (BEGIN, rule(0), rule(0), rule(0), rule(1, *[0] * 16), rule(2, *[1] * 16), text(2, ""))
        rows = told(*tripled, count(1, 0, 0), count(2, 0, 0))
        self.assertEqual(rows[6:], [[1], [0, 3 ** 16], [0, 3 ** 256 % TWO_TO_64]])

    def test_a_sum_that_passes_two_to_64(self):
        calls = (BEGIN, rule(0), rule(0), rule(1, *[0] * 16), rule(2, *[1] * 4), rule(2), rule(3, *[2] * 16))
        rows = told(*calls, count(2, 0, 0), count(3, 0, 0))
        self.assertEqual(rows[7:], [[0, 1], [0, 1]])

    def test_towers_are_finite(self):
        rows = told(BEGIN, *tower(6), rule(6, "a"), rule(6), text(0, "aaaaaa"), count(0, 0, 6), count(0, 0, 0))
        size = 16 ** 6
        chosen = size * (size - 1) * (size - 2) * (size - 3) * (size - 4) * (size - 5) // 720
        self.assertEqual(rows[9:], [[1], [0, chosen % TWO_TO_64], [0, 1]])

    def test_none_left_modulo_two_to_64_is_not_none(self):
        calls = [BEGIN, rule(0), rule(0), rule(1, *[0] * 16), rule(2, *[1] * 4), rule(3, 3, 2), rule(3, "a"), text(3, "a")]
        rows = told(*calls, count(2, 0, 0), count(3, 0, 1))
        self.assertEqual(rows[7:], [[1], [0, 0], [1]])


class AgainstTheSlowWay(unittest.TestCase):

    def check(self, rules, signs):
        slow = slow_counts(rules, signs)
        pieces = [(name, i, j) for name in range(3) for j in range(len(signs) + 1) for i in range(j + 1)]
        calls = as_calls(rules) + [text(name, signs) for name in range(3)] + [count(*piece) for piece in pieces]
        rows = told(*calls)[1 + len(rules):]
        whole = [[1 if (name, 0, len(signs)) in slow else 0] for name in range(3)]
        self.assertEqual(rows, whole + [slow.get(piece, [0, 0]) for piece in pieces], (rules, signs))
        return rows[3:]

    def test_many_small_grammars(self):
        source = random.Random(20261116)
        met = {"none": 0, "some": 0, "endless": 0}
        for number in range(600):
            signs = "".join(source.choice("ab") for place in range(source.randint(0, 3)))
            for row in self.check(some_rules(source), signs):
                met["endless" if row == [1] else "none" if row == [0, 0] else "some"] += 1
        self.assertTrue(min(met.values()) > 200, met)

    def test_a_few_longer_texts(self):
        source = random.Random(7)
        for number in range(12):
            signs = "".join(source.choice("aab") for place in range(6))
            self.check(some_rules(source), signs)


if __name__ == "__main__":
    unittest.main()
