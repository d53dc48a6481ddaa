import math
import random
import unittest

from tests.helper import (BEGIN, LEAST, MOST, TWO_TO_64, as_calls, count, last, rule, slow_counts, slow_trees, some_rules,
                          text, told, tower, tree)

# 2 -> one rule for nothing and another: a digit of a binary number, 16 of them in 1, 256 in 0.
DIGITS = (BEGIN, *tower(2), rule(2), rule(2))


def all_trees(*calls):
    """The trees from 0 on, up to the first refusal."""
    found = []
    while last(*calls, tree(len(found))) != [-1]:
        row = last(*calls, tree(len(found)))
        assert row[0] == len(row) - 1, row
        found.append(row[1:])
    return found


class Order(unittest.TestCase):

    def test_an_ambiguous_grammar(self):
        calls = (BEGIN, rule(0, 0, 0), rule(0, "a"))
        self.assertEqual(all_trees(*calls, text(0, "a")), [[1]])
        self.assertEqual(all_trees(*calls, text(0, "aaa")), [[0, 0, 1, 1, 1], [0, 1, 0, 1, 1]])
        self.assertEqual(all_trees(*calls, text(0, "aaaa")), [[0, 0, 0, 1, 1, 1, 1], [0, 0, 1, 0, 1, 1, 1],
                                                             [0, 0, 1, 1, 0, 1, 1], [0, 1, 0, 0, 1, 1, 1],
                                                             [0, 1, 0, 1, 0, 1, 1]])

    def test_the_rules_numbers_decide_not_where_a_right_is_cut(self):
        shorter_first = (BEGIN, rule(0, 1, 1), rule(1, "a"), rule(1, "a", "a"), text(0, "aaa"))
        longer_first = (BEGIN, rule(0, 1, 1), rule(1, "a", "a"), rule(1, "a"), text(0, "aaa"))
        self.assertEqual(all_trees(*shorter_first), [[0, 1, 2], [0, 2, 1]])
        self.assertEqual(all_trees(*longer_first), [[0, 1, 2], [0, 2, 1]])

    def test_trees_with_different_cuts_are_mixed(self):
        calls = (BEGIN, rule(0, 1, 1), rule(1, 2, 2), rule(2, "a"), rule(2), text(0, "aa"))
        self.assertEqual(all_trees(*calls), [[0, 1, 2, 2, 1, 3, 3], [0, 1, 2, 3, 1, 2, 3], [0, 1, 2, 3, 1, 3, 2],
                                             [0, 1, 3, 2, 1, 2, 3], [0, 1, 3, 2, 1, 3, 2], [0, 1, 3, 3, 1, 2, 2]])

    def test_a_first_part_of_many_ways_with_cuts_before_and_behind(self):
        calls = (BEGIN, rule(0, 1, 2), rule(1, "a"), rule(1, "a", "a"), rule(1, "a"), rule(2, "a", "a"), rule(2, "a"),
                 rule(2, "a", "a"), text(0, "aaa"))
        self.assertEqual(all_trees(*calls), [[0, 1, 4], [0, 1, 6], [0, 2, 5], [0, 3, 4], [0, 3, 6]])

    def test_the_same_rule_twice_is_two_trees(self):
        calls = (BEGIN, rule(0, "a"), rule(1, "a"), rule(0, "a"), text(0, "a"))
        self.assertEqual(all_trees(*calls), [[0], [2]])

    def test_a_trees_own_rule_comes_before_those_of_its_parts(self):
        calls = (BEGIN, rule(1, "a"), rule(2, "b"), rule(0, 1, 2), rule(0, 3, "b"), rule(3, "a"), text(0, "ab"))
        self.assertEqual(all_trees(*calls), [[2, 0, 1], [3, 4]])

    def test_left_and_right_recursion(self):
        calls = (BEGIN, rule(0, 0, "a"), rule(0, "a", 0), rule(0, "a"), text(0, "aaa"))
        self.assertEqual(all_trees(*calls), [[0, 0, 2], [0, 1, 2], [1, 0, 2], [1, 1, 2]])

    def test_rules_for_nothing(self):
        calls = (BEGIN, rule(0, 1, 1), rule(1), rule(1, "a"), text(0, "a"))
        self.assertEqual(all_trees(*calls), [[0, 1, 2], [0, 2, 1]])
        self.assertEqual(last(BEGIN, rule(0), tree(0)), [1, 0])

    def test_circles_that_make_no_text_stand_in_no_tree(self):
        calls = (BEGIN, rule(0, 1), rule(0, "a"), rule(1, 1), rule(1, 0, 2), rule(2, 2), text(0, "a"))
        self.assertEqual(all_trees(*calls), [[1]])

    def test_circles_round_other_pieces(self):
        calls = (BEGIN, rule(0, 1, 2), rule(1, "a"), rule(2, "b"), rule(2, 3, 2), rule(3, 3), rule(3, "c"))
        self.assertEqual(all_trees(*calls, text(0, "ab")), [[0, 1, 2]])
        self.assertEqual(last(*calls, text(0, "acb"), tree(0)), [-1])
        calls = (BEGIN, rule(0, 1, 1), rule(1, "a"), rule(1, 2), rule(2, 2), rule(2, "a", "a"), text(0, "aa"))
        self.assertEqual(all_trees(*calls), [[0, 1, 1]])


class StartAndText(unittest.TestCase):

    def test_a_new_grammar(self):
        self.assertEqual(told(BEGIN, tree(0)), [[0], [-1]])
        self.assertEqual(told(tree(0)), [[-1]])

    def test_the_text_is_empty_behind_a_rule_and_the_start_stays(self):
        rows = told(BEGIN, rule(3, "a"), text(3, "a"), tree(0), rule(3), tree(0), rule(0), tree(0), tree(1))
        self.assertEqual(rows[3:], [[1, 0], [1], [1, 1], [2], [1, 1], [-1]])

    def test_the_start_is_0_behind_begin(self):
        rows = told(BEGIN, text(3, "a"), BEGIN, rule(3), tree(0), rule(0), tree(0))
        self.assertEqual(rows[4:], [[-1], [1], [1, 1]])

    def test_the_last_text_holds(self):
        rows = told(BEGIN, rule(0, "a"), rule(1, "b"), text(0, "a"), text(1, "b"), tree(0), text(1, "a"), tree(0),
                    text(0, "a"), tree(0))
        self.assertEqual(rows[5:], [[1, 1], [0], [-1], [1], [1, 0]])

    def test_refused_calls_change_nothing(self):
        rows = told(BEGIN, rule(0, "a"), text(0, "a"), text(256, "b"), tree(0), rule(256), tree(0), rule(0, 512),
                    tree(0), tree(1), tree(0, 0), tree(0))
        self.assertEqual(rows[3:], [[-1], [1, 0], [-1], [1, 0], [-1], [1, 0], [-1], [-2], [1, 0]])

    def test_only_the_whole_text_counts(self):
        calls = (BEGIN, rule(0, "a"), rule(0, "a", "b"), rule(0, "b"))
        self.assertEqual(all_trees(*calls, text(0, "ab")), [[1]])
        self.assertEqual(all_trees(*calls, text(0, "aba")), [])


class Refusals(unittest.TestCase):

    def test_k_of_the_last_tree_and_beyond(self):
        calls = (BEGIN, rule(0, 0, 0), rule(0, "a"), text(0, "aaaa"))
        for k, asked in ((4, [7, 0, 1, 0, 1, 0, 1, 1]), (5, [-1]), (6, [-1]), (TWO_TO_64 - 1, [-1])):
            with self.subTest(k=k):
                self.assertEqual(last(*calls, tree(k)), asked)

    def test_endlessly_many(self):
        for calls in ((rule(0, 0), rule(0)), (rule(0, 0, 0), rule(0)), (rule(0, 1), rule(1, 0), rule(1))):
            for k in (0, 1, TWO_TO_64 - 1):
                with self.subTest(calls=calls, k=k):
                    self.assertEqual(last(BEGIN, *calls, tree(k)), [-1])

    def test_none(self):
        for k in (0, 1, TWO_TO_64 - 1):
            self.assertEqual(last(BEGIN, rule(0, "a"), text(0, "b"), tree(k)), [-1])
            self.assertEqual(last(BEGIN, rule(0, 0), tree(k)), [-1])
            self.assertEqual(last(BEGIN, rule(0, "a"), text(1, "a"), tree(k)), [-1])

    def test_most(self):
        calls = (BEGIN, rule(0, 1, 1), rule(1), rule(2))
        asked = ((LEAST, [-2]), (-1, [-2]), (0, [-2]), (1, [-2]), (2, [-2]), (3, [3, 0, 1, 1]), (4, [3, 0, 1, 1]),
                 (65535, [3, 0, 1, 1]), (65536, [3, 0, 1, 1]), (65537, [-2]), (MOST, [-2]))
        for most, row in asked:
            with self.subTest(most=most):
                self.assertEqual(last(*calls, tree(0, most)), row)

    def test_most_of_1(self):
        for most, asked in ((LEAST, [-2]), (-1, [-2]), (0, [-2]), (1, [1, 0]), (65536, [1, 0]), (65537, [-2])):
            with self.subTest(most=most):
                self.assertEqual(last(BEGIN, rule(0), tree(0, most)), asked)

    def test_minus_1_comes_first(self):
        for most in (LEAST, -1, 0, 1, 65536, 65537, MOST):
            with self.subTest(most=most):
                self.assertEqual(last(BEGIN, tree(0, most)), [-1])
                self.assertEqual(last(BEGIN, rule(0), tree(1, most)), [-1])
                self.assertEqual(last(BEGIN, rule(0), rule(0, 0), tree(0, most)), [-1])
                self.assertEqual(last(BEGIN, rule(0), text(0, "a"), tree(0, most)), [-1])

    def test_each_tree_has_its_own_size(self):
        calls = (BEGIN, rule(0, 1, 1), rule(0), rule(1), rule(0, 2), rule(2, 1))
        rows = told(*calls, *[tree(k, most) for k in range(4) for most in (1, 2, 3)])
        self.assertEqual(rows[6:], [[-2], [-2], [3, 0, 2, 2], [1, 1], [1, 1], [1, 1], [-2], [-2], [3, 3, 4, 2],
                                    [-1], [-1], [-1]])


class LargeNumbers(unittest.TestCase):

    def digits(self, k):
        """The tree of DIGITS whose last 64 leaves tell k."""
        bits = [2 + (k >> (255 - at) & 1) for at in range(256)]
        rules = [0]
        for at in range(0, 256, 16):
            rules += [1] + bits[at:at + 16]
        return [len(rules)] + rules

    def test_more_than_two_to_64_trees(self):
        for k in (0, 1, 2, 3, 65535, 65536, 2 ** 32 - 1, 2 ** 63 - 1, 2 ** 63, TWO_TO_64 - 2, TWO_TO_64 - 1,
                  0x0123456789ABCDEF, 0xFEDCBA9876543210):
            with self.subTest(k=k):
                self.assertEqual(last(*DIGITS, tree(k)), self.digits(k))

    def test_many_at_once(self):
        source = random.Random(1)
        numbers = [source.randrange(2 ** source.randint(1, 64)) for number in range(50)]
        rows = told(*DIGITS, *[tree(k) for k in numbers])
        self.assertEqual(rows[5:], [self.digits(k) for k in numbers])

    def test_two_to_63_trees(self):
        calls = (BEGIN, rule(0), rule(0), rule(1, *[0] * 16), rule(2, 1, 1, 1), rule(3, 2, *[0] * 15), text(3, ""))
        rows = told(*calls, count(3, 0, 0), tree(2 ** 63 - 1), tree(2 ** 63), tree(TWO_TO_64 - 1))
        last_tree = [4, 3] + ([2] + [1] * 16) * 3 + [1] * 15
        self.assertEqual(rows[7:], [[0, 2 ** 63], [68] + last_tree, [-1], [-1]])

    def test_two_to_64_trees_are_not_none(self):
        calls = (BEGIN, rule(0), rule(0), rule(1, *[0] * 16), rule(2, 1, 1, 1, 1), text(2, ""))
        rows = told(*calls, count(2, 0, 0), tree(0), tree(TWO_TO_64 - 2), tree(TWO_TO_64 - 1))
        last_tree = [3] + ([2] + [1] * 16) * 4
        first_tree = [3] + ([2] + [0] * 16) * 4
        self.assertEqual(rows[6:], [[0, 0], [69] + first_tree, [69] + last_tree[:-1] + [0], [69] + last_tree])

    def test_two_to_64_less_1_trees(self):
        calls = [BEGIN, rule(0), rule(0), rule(7, *[0] * 16)]
        for name, right in ((1, [0]), (2, [0] * 2), (3, [0] * 4), (4, [0] * 8), (5, [0] * 16), (6, [7] * 2)):
            calls += [rule(name, *right), rule(name)]
        calls += [rule(8, 1, 2, 3, 4, 5, 6), text(8, "")]
        rows = told(*calls, count(8, 0, 0), tree(TWO_TO_64 - 2), tree(TWO_TO_64 - 1))
        self.assertEqual(rows[len(calls):], [[0, TWO_TO_64 - 1], [7, 15, 4, 6, 8, 10, 12, 14], [-1]])

    def test_a_sum_that_passes_two_to_64(self):
        calls = (BEGIN, rule(0), rule(0), rule(1, *[0] * 16), rule(2, 1, 1, 1, 1), rule(2), rule(2), text(2, ""))
        self.assertEqual(last(*calls, tree(TWO_TO_64 - 1)), [69, 3] + ([2] + [1] * 16) * 4)
        calls = (BEGIN, rule(0), rule(0), rule(1, *[0] * 16), rule(2), rule(2, 1, 1, 1, 1), text(2, ""))
        self.assertEqual(last(*calls, tree(0)), [1, 3])
        self.assertEqual(last(*calls, tree(TWO_TO_64 - 1)), [69, 4] + ([2] + [1] * 16) * 3 + [2] + [1] * 15 + [0])


def places_of_bytes(leaves, size, k):
    """Which leaves have a byte in the k-th way to give each of so many bytes a leaf, those with early bytes first."""
    chosen = []
    for leaf in range(leaves):
        with_byte = math.comb(leaves - leaf - 1, size - 1) if size else 0
        if k < with_byte:
            chosen.append(leaf)
            size -= 1
        else:
            k -= with_byte
    return chosen


class LargeTrees(unittest.TestCase):

    def test_a_tree_of_65536_rules(self):
        calls = (BEGIN, *tower(3), rule(3), rule(4, *[0] * 15), rule(5, *[0] * 15, 3), text(4, ""))
        rows = told(*calls, tree(0, 65536), tree(0, 65535), text(5, ""), tree(0, 65536))
        floor = [3]
        for number in (2, 1, 0):
            floor = [number] + floor * 16
        self.assertEqual(rows[8], [65536, 4] + floor * 15)
        self.assertEqual(rows[9:], [[-2], [1], [-2]])

    def test_far_more_than_65536_rules(self):
        calls = (BEGIN, *tower(7), rule(7), text(0, ""))
        rows = told(*calls, *[tree(0, most) for most in (1, 4096, 65535, 65536) * 12])
        self.assertEqual(rows[10:], [[-2]] * 48)
        self.assertEqual(last(*calls, tree(1)), [-1])

    def test_far_more_than_65536_rules_in_very_many_trees(self):
        for leaves in ((rule(6), rule(6)), (rule(6, "a"), rule(6)), (rule(6), rule(6, "a"))):
            for k in (0, 1, 2 ** 40 + 12345, TWO_TO_64 - 1):
                with self.subTest(leaves=leaves, k=k):
                    size = 6 if leaves[0] != leaves[1] else 0
                    self.assertEqual(last(BEGIN, *tower(6), *leaves, text(0, "a" * size), tree(k)), [-2])

    def test_a_small_tree_beside_very_large_ones(self):
        calls = (BEGIN, rule(0, 1), *tower(5, 1), rule(6), rule(0), text(0, ""))
        self.assertEqual(told(*calls, tree(0), tree(1), tree(1, 1))[10:], [[-2], [1, 7], [1, 7]])

    def test_bytes_among_very_many_leaves(self):
        source = random.Random(3)
        for size in range(7):
            ways = math.comb(4096, size)
            for k in (0, ways - 1, source.randrange(ways), source.randrange(ways)):
                if k < TWO_TO_64:
                    with self.subTest(size=size, k=k):
                        self.check_leaves(size, k)

    def check_leaves(self, size, k):
        row = last(BEGIN, *tower(3), rule(3, "a"), rule(3), text(0, "a" * size), tree(k))
        leaves = [number for number in row[1:] if number > 2]
        self.assertEqual(row[0], 1 + 16 + 256 + 4096)
        self.assertEqual([at for at, number in enumerate(leaves) if number == 3], places_of_bytes(4096, size, k))
        self.assertEqual(row[1:5], [0, 1, 2, leaves[0]])

    def test_the_last_bytes_among_very_many_leaves(self):
        calls = (BEGIN, rule(0, *[1] * 15), *tower(3, 1), rule(4, "a"), rule(4))
        for size in (1, 3, 4):
            ways = math.comb(61440, size)
            asked = [ways - 1, ways - 61440, ways // 2] + [ways - 2 - 7 * number for number in range(46)]
            rows = told(*calls, text(0, "a" * size), *[tree(k) for k in asked])[len(calls) + 1:]
            for k, row in list(zip(asked, rows))[:5]:
                leaves = [number for number in row[1:] if number > 3]
                self.assertEqual([at for at, number in enumerate(leaves) if number == 4], places_of_bytes(61440, size, k))
            self.assertEqual({len(row) for row in rows}, {65537})
            self.assertEqual(len({tuple(row) for row in rows}), len(asked))

    def test_a_deep_tree(self):
        calls = (BEGIN, *[rule(name, name + 1) for name in range(6)], rule(6, "a", 0), rule(6), text(0, "aaaaaa"))
        asked = list(range(7)) * 6 + [0, 1, 2, 3, 4, 5, 7]
        self.assertEqual(last(*calls, tree(0)), [49] + asked)
        self.assertEqual(last(*calls, tree(0, 48)), [-2])

    def test_a_tree_that_is_thousands_deep(self):
        calls = [BEGIN, rule(0), rule(39, "a", 0)] + [rule(name, name + 1) for name in range(38, -1, -1)]
        asked = (list(range(40, 1, -1)) + [1]) * 64 + [0]
        self.assertEqual(last(*calls, text(0, "a" * 64), tree(0)), [len(asked)] + asked)


class AgainstTheSlowWay(unittest.TestCase):

    def check(self, rules, signs, slow):
        checked = 0
        for name in range(3):
            trees = slow.get((name, 0, len(signs)), [0, 0])
            if trees == [1]:
                self.assertEqual(last(*as_calls(rules), text(name, signs), tree(0)), [-1], (rules, signs))
            elif trees[1] <= 300:
                asked = [[len(one)] + one for one in slow_trees(rules, signs, name)]
                calls = as_calls(rules) + [text(name, signs)]
                rows = told(*calls, *[tree(k) for k in range(trees[1] + 1)])
                self.assertEqual(rows[len(calls):], asked + [[-1]], (rules, signs))
                checked += trees[1]
        return checked

    def ambiguous_rules(self, source):
        """Rules without circles: a part is a name further on, or a byte stands beside it."""
        rules = []
        for number in range(source.randint(5, 9)):
            left = source.choice((0, 0, 1, 1, 2, 2, 2))
            further = [353] + list(range(left + 1, 3)) * 2
            right = [source.choice(further) for part in range(source.choice((0, 1, 1, 2, 2, 3)))]
            if source.random() < 0.25:
                right = source.choice(([left, 353], [353, left], [left, 353, left])) + right[:1]
            rules.append((left, right))
        return rules

    def test_many_small_grammars(self):
        source = random.Random(16112026)
        for number in range(500):
            signs = "".join(source.choice("ab") for place in range(source.randint(0, 3)))
            rules = some_rules(source)
            self.check(rules, signs, slow_counts(rules, signs))

    def test_ambiguous_grammars(self):
        source = random.Random(8)
        checked = 0
        for number in range(300):
            signs = "a" * source.randint(0, 5)
            rules = self.ambiguous_rules(source)
            checked += self.check(rules, signs, slow_counts(rules, signs))
        self.assertGreater(checked, 2000)


if __name__ == "__main__":
    unittest.main()
