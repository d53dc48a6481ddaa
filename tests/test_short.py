import random
import unittest

from tests.helper import BEGIN, LEAST, MOST, as_calls, kind, last, rule, short, slow_texts, some_rules, text, told, tower


def row(signs):
    return [len(signs)] + [ord(sign) for sign in signs]


class Symbols(unittest.TestCase):

    def test_bytes(self):
        rows = told(BEGIN, short("a"), short(256), short(511), short(256, 1))
        self.assertEqual(rows[1:], [[1, 97], [1, 0], [1, 255], [1, 0]])

    def test_out_of_range(self):
        for symbol in (LEAST, -1, 512, MOST):
            for most in (LEAST, -1, 0, 1, 65536, 65537):
                with self.subTest(symbol=symbol, most=most):
                    self.assertEqual(last(BEGIN, rule(0), rule(255), short(symbol, most)), [-1])

    def test_the_outermost_names(self):
        rows = told(BEGIN, rule(0, "a"), rule(255, "b"), short(0), short(255), short(1), short(254))
        self.assertEqual(rows[3:], [[1, 97], [1, 98], [-1], [-1]])

    def test_names_that_make_nothing_at_all(self):
        calls = (BEGIN, rule(0, 0), rule(1, "a", 2), rule(3, 4), rule(4, 3, "b"), rule(5, 5, 6), rule(6))
        for symbol in (0, 1, 2, 3, 4, 5, 7):
            for most in (0, 1, 65536):
                with self.subTest(symbol=symbol, most=most):
                    self.assertEqual(last(*calls, short(symbol, most)), [-1])
        self.assertEqual(last(*calls, short(6)), [0])

    def test_start_and_text_do_not_matter(self):
        rows = told(BEGIN, rule(0, "a"), rule(1, "b"), short(1), text(0, "a"), short(1), text(7, "bbb"), short(1), short(0))
        self.assertEqual([rows[at] for at in (3, 5, 7, 8)], [[1, 98], [1, 98], [1, 98], [1, 97]])

    def test_rules_that_come_later_count(self):
        rows = told(BEGIN, short(0), rule(0, "b", "c"), short(0), rule(0, "b", "a"), short(0), rule(0, "d"), short(0),
                    rule(0, 512), short(0), rule(0), short(0), BEGIN, short(0))
        self.assertEqual(rows[1::2], [[-1], row("bc"), row("ba"), row("d"), row("d"), [0], [-1]])


class Which(unittest.TestCase):

    def test_the_shortest(self):
        self.assertEqual(last(BEGIN, rule(0, "a", "a"), rule(0, "z"), short(0)), row("z"))
        self.assertEqual(last(BEGIN, rule(0, "z"), rule(0, "a", "a"), short(0)), row("z"))
        self.assertEqual(last(BEGIN, rule(0, 1), rule(0, "a", "a", "a"), rule(1, 2, 2), rule(2, "z"), short(0)), row("zz"))

    def test_the_first_in_the_order_of_bytes(self):
        self.assertEqual(last(BEGIN, rule(0, "b", "a"), rule(0, "a", "z"), rule(0, "c", "a"), short(0)), row("az"))
        self.assertEqual(last(BEGIN, rule(0, "a", "z"), rule(0, "b", "a"), short(0)), row("az"))
        self.assertEqual(last(BEGIN, rule(0, 511), rule(0, 256 + 128), rule(0, 256 + 127), short(0)), [1, 127])
        self.assertEqual(last(BEGIN, rule(0, 256 + 9), rule(0, 256 + 10), rule(0, 256), rule(0, 511), short(0)), [1, 0])

    def test_the_first_is_found_part_by_part(self):
        calls = (BEGIN, rule(0, 1, 2), rule(1, "b"), rule(1, "a"), rule(2, "d", 1), rule(2, 1, "c"), rule(0, "a", "a", "d"))
        self.assertEqual(last(*calls, short(0)), row("aac"))

    def test_the_cut_may_be_anywhere(self):
        calls = (BEGIN, rule(0, 1, 2), rule(1, "b"), rule(2, "a", "a"), rule(0, 3, "z"), rule(3, "a", "z"))
        self.assertEqual(last(*calls, short(0)), row("azz"))

    def test_the_empty_text(self):
        self.assertEqual(last(BEGIN, rule(0), short(0)), [0])
        self.assertEqual(last(BEGIN, rule(0, "a"), rule(0, 1, 1), rule(1, 2), rule(2), short(0)), [0])
        self.assertEqual(last(BEGIN, rule(0, 0, 0), rule(0), short(0)), [0])

    def test_rules_in_circles(self):
        circle = [rule(0, 1), rule(1, 2), rule(2, 0)]
        for at in range(3):
            calls = [BEGIN] + circle + [rule(at, "b"), rule((at + 1) % 3, "a"), rule((at + 2) % 3, "c")]
            with self.subTest(at=at):
                self.assertEqual(told(*calls, short(0), short(1), short(2))[7:], [row("a")] * 3)

    def test_circles_with_parts_for_nothing(self):
        calls = (BEGIN, rule(0, 2, 1, 2), rule(1, 2, 0), rule(2), rule(0, "c", "a"), rule(1, "b", "z"))
        self.assertEqual(told(*calls, short(0), short(1))[6:], [row("bz")] * 2)

    def test_left_recursion(self):
        calls = (BEGIN, rule(0, 0, "+", 0), rule(0, "(", 0, ")"), rule(0, 1), rule(1, 1, "1"), rule(1, "2"))
        self.assertEqual(told(*calls, short(0), short(1))[6:], [row("2")] * 2)

    def test_names_are_given_in_any_order(self):
        rules = [rule(0, 1, 1), rule(1, 2, "b"), rule(2, 3, 3), rule(3, "c"), rule(3, "a")]
        source = random.Random(2)
        for number in range(20):
            source.shuffle(rules)
            self.assertEqual(last(BEGIN, *rules, short(0)), row("aabaab"))


class Most(unittest.TestCase):

    def test_the_texts_length_and_one_less(self):
        calls = (BEGIN, rule(0, "a", "b", "c"))
        asked = ((LEAST, [-2]), (-1, [-2]), (0, [-2]), (1, [-2]), (2, [-2]), (3, row("abc")), (4, row("abc")),
                 (65535, row("abc")), (65536, row("abc")), (65537, [-2]), (MOST, [-2]))
        for most, numbers in asked:
            with self.subTest(most=most):
                self.assertEqual(last(*calls, short(0, most)), numbers)

    def test_bytes(self):
        for most, asked in ((LEAST, [-2]), (-1, [-2]), (0, [-2]), (1, [1, 97]), (65536, [1, 97]), (65537, [-2]), (MOST, [-2])):
            with self.subTest(most=most):
                self.assertEqual(last(BEGIN, short("a", most)), asked)

    def test_the_empty_text_is_never_too_long(self):
        for most in (LEAST, -1, 0, 1, 65536, 65537, MOST):
            with self.subTest(most=most):
                self.assertEqual(last(BEGIN, rule(0), rule(0, "a"), short(0, most)), [0])

    def test_a_text_of_65536_bytes(self):
        calls = (BEGIN, *tower(3), rule(3, *"abcdefghijklmnop"), rule(4, 0, "a"))
        rows = told(*calls, short(0, 65536), short(0, 65535), short(4, 65536), short(0, 65537))
        self.assertEqual(rows[6], row("abcdefghijklmnop" * 4096))
        self.assertEqual(rows[7:], [[-2], [-2], [-2]])

    def test_a_text_of_65535_bytes(self):
        calls = (BEGIN, rule(0, *[1] * 15), rule(1, 2, 3, 4, "b"), *tower(2, 2), rule(4, *[5] * 16), rule(5, "b"),
                 rule(5, "a"))
        rows = told(*calls, short(0, 65535), short(0, 65536), short(0, 65534))
        asked = row(("a" * (4096 + 256 + 16) + "b") * 15)
        self.assertEqual(asked[0], 65535)
        self.assertEqual(rows[8:], [asked, asked, [-2]])

    def test_far_longer_than_65536(self):
        calls = (BEGIN, *tower(7), rule(7, *"aaaaaaaaaaaaaaaa"))
        rows = told(*calls, *[short(name) for name in range(8)] * 6)
        self.assertEqual(rows[9:], ([[-2]] * 4 + [row("a" * 16 ** (8 - name)) for name in range(4, 8)]) * 6)

    def test_a_long_text_beside_a_far_longer_one(self):
        calls = (BEGIN, *tower(5), rule(5, *"bbbbbbbbbbbbbbbb"), rule(0, 3), rule(3, "c"))
        self.assertEqual(told(*calls, short(0), short(3), short(1), short(4))[9:],
                         [[1, 99], [1, 99], [256] + [99] * 256, [256] + [98] * 256])

    def test_a_tower_of_nothing(self):
        self.assertEqual(told(BEGIN, *tower(7), rule(7), short(0), short(0, 0), short(7))[9:], [[0], [0], [0]])

    def test_a_refusal_changes_nothing(self):
        rows = told(BEGIN, rule(0, "a", "b"), short(0, 1), short(512), short(1), short(0, 2), short(0, 1))
        self.assertEqual(rows[2:], [[-2], [-1], [-1], row("ab"), [-2]])


class AgainstTheSlowWay(unittest.TestCase):

    def test_many_small_grammars(self):
        source = random.Random(77)
        met = {}
        for number in range(800):
            rules = some_rules(source)
            texts = slow_texts(rules, 4)
            rows = told(*as_calls(rules), *[short(name) for name in range(4)], *[kind(name) for name in range(4)])
            rows = rows[1 + len(rules):]
            for name in range(4):
                made = sorted(texts.get(name, []), key=lambda one: (len(one), one))
                if made:
                    self.assertEqual(rows[name], [len(made[0])] + list(made[0]), (rules, name))
                    met[len(made[0])] = met.get(len(made[0]), 0) + 1
                elif rows[name] == [-1]:
                    self.assertEqual(rows[4 + name], [0], (rules, name))
                else:
                    self.assertGreater(rows[name][0], 4, (rules, name))
        self.assertTrue(met[0] > 100 and met[1] > 100 and met[2] > 40 and met[3] > 10, met)


if __name__ == "__main__":
    unittest.main()
