import unittest

from tests.helper import BEGIN, LEAST, MOST, count, last, rule, text, told
from treewords.grammar import Grammar


class Numbers(unittest.TestCase):

    def test_they_count_from_0_in_the_order_given(self):
        self.assertEqual(told(BEGIN, rule(9, "a"), rule(3), rule(9, 3)), [[0], [0], [1], [2]])

    def test_the_same_rule_twice_is_two(self):
        rows = told(BEGIN, rule(0, "a"), rule(0, "a"), text(0, "a"), count(0, 0, 1))
        self.assertEqual(rows, [[0], [0], [1], [1], [0, 2]])

    def test_one_that_is_refused_takes_no_number(self):
        self.assertEqual(told(BEGIN, rule(0), rule(256), rule(0, 512), rule(0)), [[0], [0], [-1], [-1], [1]])


class Ranges(unittest.TestCase):

    def test_left(self):
        for left, asked in ((LEAST, -1), (-1, -1), (0, 0), (255, 0), (256, -1), (511, -1), (MOST, -1)):
            with self.subTest(left=left):
                self.assertEqual(last(BEGIN, rule(left, "a")), [asked])

    def test_the_lengths_of_a_right(self):
        for size, asked in ((0, 0), (1, 0), (15, 0), (16, 0), (17, -1), (40, -1)):
            with self.subTest(size=size):
                self.assertEqual(last(BEGIN, rule(0, *[5] * size)), [asked])

    def test_a_symbol_at_any_place(self):
        for symbol, asked in ((LEAST, -1), (-1, -1), (0, 0), (255, 0), (256, 0), (511, 0), (512, -1), (MOST, -1)):
            for size in (1, 2, 16):
                for place in range(size):
                    right = [300] * size
                    right[place] = symbol
                    with self.subTest(right=right):
                        self.assertEqual(last(BEGIN, rule(4, *right)), [asked])

    def test_all_of_a_right_of_16_counts(self):
        parts = [1] * 15 + ["a"]
        self.assertEqual(told(BEGIN, rule(0, *parts), rule(1), text(0, "a"))[3:], [[1]])
        self.assertEqual(told(BEGIN, rule(0, *parts), rule(1), text(0, ""))[3:], [[0]])


class Room(unittest.TestCase):

    def test_there_are_128_rules_at_the_most(self):
        rows = told(BEGIN, *[rule(0)] * 130)
        self.assertEqual(rows[1:], [[number] for number in range(128)] + [[-2], [-2]])

    def test_all_rights_come_to_512_at_the_most(self):
        rows = told(BEGIN, *[rule(0, *[0] * 16)] * 31, rule(0, *[0] * 15), rule(0, 0, 0), rule(0, 0), rule(0, 0), rule(0))
        self.assertEqual(rows[-5:], [[31], [-2], [32], [-2], [33]])

    def test_what_is_out_of_range_is_looked_at_first(self):
        full = [rule(0)] * 128
        for refused in (rule(-1), rule(256), rule(0, 512), rule(0, *[0] * 17)):
            with self.subTest(refused=refused):
                self.assertEqual(last(BEGIN, *full, refused), [-1])


class Changes(unittest.TestCase):

    def test_one_that_is_taken_empties_the_text(self):
        rows = told(BEGIN, rule(0, "a"), text(0, "a"), rule(1), count("a", 0, 1), count(0, 0, 0), count(1, 0, 0))
        self.assertEqual(rows[4:], [[-1], [0, 0], [0, 1]])

    def test_one_that_is_taken_counts_at_once(self):
        rows = told(BEGIN, rule(0), count(0, 0, 0), rule(0), count(0, 0, 0), rule(0, 0), count(0, 0, 0))
        self.assertEqual(rows[1:], [[0], [0, 1], [1], [0, 2], [2], [1]])

    def test_one_that_is_taken_leaves_the_start(self):
        grammar = Grammar()
        grammar.set_text(7, [97])
        self.assertEqual(grammar.add_rule(0, []), [0])
        self.assertEqual([grammar.start, grammar.text], [7, []])

    def test_one_that_is_refused_changes_nothing(self):
        for refused in (rule(-1, "a"), rule(256, "a"), rule(0, "a", 512), rule(0, -1), rule(0, *["a"] * 17)):
            with self.subTest(refused=refused):
                rows = told(BEGIN, rule(0, "a"), text(0, "a"), refused, count(0, 0, 1), count("a", 0, 1), text(0, "a"))
                self.assertEqual(rows[3:], [[-1], [0, 1], [0, 1], [1]])

    def test_one_without_room_changes_nothing(self):
        rows = told(BEGIN, *[rule(0, "a")] * 128, text(0, "a"), rule(0, "a"), count(0, 0, 1))
        self.assertEqual(rows[-3:], [[1], [-2], [0, 128]])

    def test_one_that_is_refused_leaves_the_start(self):
        grammar = Grammar()
        grammar.set_text(7, [97])
        self.assertEqual(grammar.add_rule(0, [512]), [-1])
        self.assertEqual([grammar.start, grammar.text, grammar.rules], [7, [97], []])


if __name__ == "__main__":
    unittest.main()
