import random
import unittest

from tests.helper import BEGIN, LEAST, MOST, as_calls, kind, last, rule, slow_kinds, some_rules, text, told, tower

SOME, EMPTY, TREES, TEXTS = 1, 2, 4, 8


def kind_of_0(*rules):
    return last(BEGIN, *rules, kind(0))


class Symbols(unittest.TestCase):

    def test_out_of_range(self):
        for symbol in (LEAST, -1, 512, MOST):
            with self.subTest(symbol=symbol):
                self.assertEqual(last(BEGIN, rule(0, 0), rule(0), kind(symbol)), [-1])

    def test_bytes(self):
        rows = told(BEGIN, rule(0, 0, "a"), rule(0, "a"), kind(256), kind("a"), kind(511), kind(0))
        self.assertEqual(rows[3:], [[1], [1], [1], [9]])

    def test_names(self):
        rows = told(BEGIN, rule(0, "a"), rule(255), kind(0), kind(1), kind(254), kind(255))
        self.assertEqual(rows[3:], [[1], [0], [0], [3]])

    def test_a_name_with_no_rule(self):
        self.assertEqual(told(BEGIN, kind(0), kind(255)), [[0], [0], [0]])
        self.assertEqual(kind_of_0(rule(1, "a")), [0])

    def test_start_and_text_do_not_matter(self):
        rows = told(BEGIN, rule(0, "a"), kind(0), text(1, "bb"), kind(0), kind(1), text(0, "a"), kind(0))
        self.assertEqual([rows[at] for at in (2, 4, 5, 7)], [[1], [1], [0], [1]])

    def test_rules_that_come_later_count(self):
        rows = told(BEGIN, kind(0), rule(0, "a"), kind(0), rule(0), kind(0), rule(0, 0), kind(0), rule(0, 0, "a"), kind(0),
                    rule(0, -1), kind(0), BEGIN, kind(0))
        self.assertEqual(rows[1::2], [[0], [1], [3], [7], [15], [15], [0]])


class Sums(unittest.TestCase):

    def test_every_sum_that_there_can_be(self):
        self.assertEqual(kind_of_0(rule(0, 0)), [0])
        self.assertEqual(kind_of_0(rule(0, "a")), [SOME])
        self.assertEqual(kind_of_0(rule(0)), [SOME + EMPTY])
        self.assertEqual(kind_of_0(rule(0, "a"), rule(0, 0)), [SOME + TREES])
        self.assertEqual(kind_of_0(rule(0), rule(0, 0)), [SOME + EMPTY + TREES])
        self.assertEqual(kind_of_0(rule(0, "a"), rule(0, "a", 0)), [SOME + TEXTS])
        self.assertEqual(kind_of_0(rule(0), rule(0, "a", 0)), [SOME + EMPTY + TEXTS])
        self.assertEqual(kind_of_0(rule(0, "a"), rule(0, "a", 0), rule(0, 0)), [SOME + TREES + TEXTS])
        self.assertEqual(kind_of_0(rule(0), rule(0, "a", 0), rule(0, 0)), [SOME + EMPTY + TREES + TEXTS])

    def test_the_empty_text_by_parts(self):
        self.assertEqual(kind_of_0(rule(0, 1, 1), rule(1, 2), rule(2)), [3])
        self.assertEqual(kind_of_0(rule(0, 1, 3), rule(1, 2), rule(2), rule(3, "a")), [1])
        self.assertEqual(kind_of_0(rule(0, 1, "a"), rule(1)), [1])


class EndlessTrees(unittest.TestCase):

    def test_circles(self):
        self.assertEqual(kind_of_0(rule(0, 1), rule(1, 2), rule(2, 0), rule(2, "a")), [5])
        self.assertEqual(told(BEGIN, rule(0, 1), rule(1, 0), rule(1, "a"), rule(2, 0), kind(0), kind(1), kind(2))[5:],
                         [[5]] * 3)

    def test_with_parts_that_may_be_empty(self):
        self.assertEqual(kind_of_0(rule(0, 1, 0, 1), rule(1), rule(0, "a")), [5])
        self.assertEqual(kind_of_0(rule(0, 1, 0), rule(1), rule(1, "b"), rule(0, "a")), [13])
        self.assertEqual(kind_of_0(rule(0, 1, 0), rule(1, "b"), rule(0, "a")), [9])
        self.assertEqual(kind_of_0(rule(0, 0, 0), rule(0, "a")), [9])
        self.assertEqual(kind_of_0(rule(0, 0, 0), rule(0)), [7])
        self.assertEqual(kind_of_0(rule(0, 0, 0), rule(0), rule(0, "a")), [15])

    def test_a_circle_with_a_byte_on_its_way(self):
        self.assertEqual(kind_of_0(rule(0, 1), rule(1, "b", 0), rule(1, "a")), [9])

    def test_a_circle_in_a_part(self):
        self.assertEqual(kind_of_0(rule(0, "a", 1), rule(1, 1), rule(1, "b")), [5])
        self.assertEqual(kind_of_0(rule(0, "a"), rule(0, 1, 2), rule(1, 1), rule(1, "b"), rule(2, "c")), [5])

    def test_a_circle_that_is_not_below(self):
        self.assertEqual(kind_of_0(rule(0, "a"), rule(1, 0), rule(1, 1), rule(2, 2, "b"), rule(2, 0)), [1])

    def test_circles_that_make_no_text(self):
        self.assertEqual(kind_of_0(rule(0, "a"), rule(0, 1), rule(1, 1)), [1])
        self.assertEqual(kind_of_0(rule(0, "a"), rule(0, 0, 1), rule(1, 1)), [1])
        self.assertEqual(kind_of_0(rule(0, "a"), rule(0, 0, 1)), [1])
        self.assertEqual(kind_of_0(rule(0, "a"), rule(0, 1, 2), rule(1, 1), rule(1)), [1])
        self.assertEqual(kind_of_0(rule(0, "a"), rule(1, 1), rule(1, 2), rule(2, 1)), [1])

    def test_very_many_trees_are_not_endlessly_many(self):
        self.assertEqual(kind_of_0(*tower(5), rule(5), rule(5), rule(5)), [3])


class EndlessTexts(unittest.TestCase):

    def test_growing_on_each_side(self):
        self.assertEqual(kind_of_0(rule(0, 0, "a"), rule(0)), [11])
        self.assertEqual(kind_of_0(rule(0, "a", 0), rule(0)), [11])
        self.assertEqual(kind_of_0(rule(0, "a", 0, "b"), rule(0)), [11])

    def test_a_circle_that_grows_at_one_step_alone(self):
        rows = told(BEGIN, rule(0, 1), rule(1, 2), rule(2, 3), rule(3, 0, "a"), rule(3, "b"), *[kind(name) for name in range(4)])
        self.assertEqual(rows[6:], [[9]] * 4)

    def test_growing_by_a_part_that_may_be_empty_or_not(self):
        self.assertEqual(kind_of_0(rule(0, 0, 1), rule(0), rule(1), rule(1, "a")), [15])
        self.assertEqual(kind_of_0(rule(0, 0, 1), rule(0), rule(1)), [7])
        self.assertEqual(kind_of_0(rule(0, 0, 1), rule(0), rule(1, 2), rule(2, 3), rule(3, "a"), rule(3)), [15])

    def test_growing_by_the_other_of_two_same_parts(self):
        self.assertEqual(kind_of_0(rule(0, 0, 0), rule(0, "a")), [9])
        self.assertEqual(kind_of_0(rule(0, 1, 1), rule(1, 0), rule(1, "a")), [9])

    def test_in_a_part(self):
        self.assertEqual(kind_of_0(rule(0, 1, 2), rule(1), rule(2, 2, "a"), rule(2)), [11])
        self.assertEqual(kind_of_0(rule(0, 1, 2), rule(1, "b"), rule(2, 2, "a"), rule(2)), [9])

    def test_circles_that_make_no_text(self):
        self.assertEqual(kind_of_0(rule(0, "a"), rule(0, 0, "b", 1)), [1])
        self.assertEqual(kind_of_0(rule(0, "a"), rule(0, 1), rule(1, "b", 1)), [1])
        self.assertEqual(kind_of_0(rule(0, "a"), rule(0, 2, 1), rule(2, "b", 2), rule(2)), [1])
        self.assertEqual(kind_of_0(rule(0, 0), rule(0), rule(0, 0, 1), rule(1, "a", 1)), [7])

    def test_very_many_texts_are_not_endlessly_many(self):
        self.assertEqual(kind_of_0(*tower(6), rule(6), rule(6, "a")), [3])

    def test_many_of_one_circle(self):
        ring = [rule(name, *[(name + at) % 7 for at in range(1, 17)]) for name in range(7)]
        self.assertEqual(kind_of_0(*ring), [0])
        self.assertEqual(kind_of_0(*ring, rule(3, "a")), [0])
        self.assertEqual(kind_of_0(*ring, rule(3)), [0])


class AgainstTheSlowWay(unittest.TestCase):

    def test_many_small_grammars(self):
        source = random.Random(88)
        met = {}
        for number in range(1500):
            rules = some_rules(source, 2)
            rows = told(*as_calls(rules), *[kind(name) for name in range(4)])[1 + len(rules):]
            slow = slow_kinds(rules, range(4))
            self.assertEqual(rows, [[slow[name]] for name in range(4)], rules)
            for name in range(4):
                met[slow[name]] = met.get(slow[name], 0) + 1
        self.assertEqual(sorted(met), [0, 1, 3, 5, 7, 9, 11, 13, 15])
        self.assertGreater(min(met.values()), 20, met)


if __name__ == "__main__":
    unittest.main()
