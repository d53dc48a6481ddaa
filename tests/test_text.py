import unittest

from tests.helper import BEGIN, LEAST, MOST, count, last, rule, text, told
from treewords.grammar import Grammar


class Ranges(unittest.TestCase):

    def test_start(self):
        for start, asked in ((LEAST, -1), (-1, -1), (0, 1), (255, 1), (256, -1), (511, -1), (MOST, -1)):
            with self.subTest(start=start):
                self.assertEqual(last(BEGIN, rule(0, "a"), rule(255, "a"), text(start, "a")), [asked])

    def test_the_lengths_of_a_text(self):
        for size, asked in ((0, 1), (1, 1), (6, 1), (64, 1), (65, -1), (100, -1)):
            with self.subTest(size=size):
                self.assertEqual(last(BEGIN, rule(0, 0, "a"), rule(0), text(0, "a" * size)), [asked])

    def test_every_byte(self):
        for number in (0, 1, 127, 128, 254, 255):
            sign = chr(number)
            other = chr(255 - number)
            self.assertEqual(told(BEGIN, rule(0, sign), text(0, sign), text(0, other))[2:], [[1], [0]])


class Makes(unittest.TestCase):

    def test_the_empty_text(self):
        self.assertEqual(last(BEGIN, text(0, "")), [0])
        self.assertEqual(last(BEGIN, rule(0), text(0, "")), [1])
        self.assertEqual(last(BEGIN, rule(0, "a"), text(0, "")), [0])
        self.assertEqual(last(BEGIN, rule(0), text(1, "")), [0])

    def test_a_text_of_6(self):
        spelled = rule(0, *"abcdef")
        self.assertEqual(last(BEGIN, spelled, text(0, "abcdef")), [1])
        self.assertEqual(last(BEGIN, spelled, text(0, "abcdeg")), [0])
        self.assertEqual(last(BEGIN, spelled, text(0, "abcde")), [0])
        self.assertEqual(last(BEGIN, rule(0, *"abcdefg"), text(0, "abcdef")), [0])

    def test_the_whole_text_and_not_a_part_of_it(self):
        rows = told(BEGIN, rule(0, "b"), text(0, "ab"), text(0, "ba"), text(0, "bb"), text(0, "b"))
        self.assertEqual(rows[2:], [[0], [0], [0], [1]])

    def test_the_start_decides(self):
        rows = told(BEGIN, rule(0, "a"), rule(1, "b"), text(0, "a"), text(1, "a"), text(1, "b"), text(2, "b"))
        self.assertEqual(rows[3:], [[1], [0], [1], [0]])

    def test_brackets(self):
        grammar = (BEGIN, rule(0), rule(0, "(", 0, ")", 0))
        made = ("", "()", "(())", "()()", "((()))", "(()())", "()(())", "()()()")
        for signs in made + ("(", ")", ")(", "(()", "())(", "((())("):
            with self.subTest(signs=signs):
                self.assertEqual(last(*grammar, text(0, signs)), [1 if signs in made else 0])

    def test_palindromes(self):
        grammar = (BEGIN, rule(0), rule(0, "a"), rule(0, "b"), rule(0, "a", 0, "a"), rule(0, "b", 0, "b"))
        for number in range(2, 128):
            signs = bin(number)[3:].replace("0", "a").replace("1", "b")
            with self.subTest(signs=signs):
                self.assertEqual(last(*grammar, text(0, signs)), [1 if signs == signs[::-1] else 0])

    def test_left_recursion_and_recursion_hidden_behind_nothing(self):
        self.assertEqual(last(BEGIN, rule(0, 0, "a"), rule(0, "b"), text(0, "baaaaa")), [1])
        self.assertEqual(last(BEGIN, rule(0, 0, "a"), rule(0, "b"), text(0, "aaaaab")), [0])
        self.assertEqual(last(BEGIN, rule(0, 1, 0, "a"), rule(0, "b"), rule(1), text(0, "baaaaa")), [1])

    def test_circles(self):
        self.assertEqual(last(BEGIN, rule(0, 1), rule(1, 0), text(0, "")), [0])
        self.assertEqual(last(BEGIN, rule(0, 1), rule(1, 0), text(0, "a")), [0])
        self.assertEqual(last(BEGIN, rule(0, 1), rule(1, 0), rule(1, "a"), text(0, "a")), [1])
        self.assertEqual(last(BEGIN, rule(0, 0, 0), text(0, "a")), [0])

    def test_so_many_trees_that_none_are_left_modulo_two_to_64(self):
        calls = (BEGIN, rule(0), rule(0), rule(1, *[0] * 16), rule(2, *[1] * 4))
        self.assertEqual(last(*calls, text(2, "")), [1])


class Changes(unittest.TestCase):

    def test_the_text_is_the_last_one_given(self):
        rows = told(BEGIN, text(0, "abc"), count("c", 2, 3), text(0, "ab"), count("b", 1, 2), count("c", 2, 3))
        self.assertEqual(rows[2:], [[0, 1], [0], [0, 1], [-1]])

    def test_it_is_kept_with_its_start_where_the_answer_is_0_too(self):
        grammar = Grammar()
        self.assertEqual(grammar.set_text(255, [97, 98]), [0])
        self.assertEqual([grammar.start, grammar.text], [255, [97, 98]])

    def test_a_refusal_leaves_the_text_and_the_start(self):
        for start, signs in ((-1, "b"), (256, "b"), (0, "b" * 65)):
            with self.subTest(start=start, signs=signs):
                rows = told(BEGIN, rule(3, "a"), text(3, "a"), text(start, signs), count(3, 0, 1), count("b", 0, 1))
                self.assertEqual(rows[3:], [[-1], [0, 1], [0, 0]])
                grammar = Grammar()
                grammar.set_text(3, [97])
                self.assertEqual(grammar.set_text(start, [ord(sign) for sign in signs]), [-1])
                self.assertEqual([grammar.start, grammar.text], [3, [97]])

    def test_it_leaves_the_rules(self):
        self.assertEqual(last(BEGIN, rule(0, "a"), text(0, "b"), text(5, ""), text(0, "a")), [1])


if __name__ == "__main__":
    unittest.main()
