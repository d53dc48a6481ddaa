import unittest

import treewords.grammar
from tests.helper import BEGIN, count, last, line, rule, text, told
from treewords.grammar import answers


class Interface(unittest.TestCase):

    def test_an_empty_list_gives_an_empty_list(self):
        self.assertEqual(answers([]), [])

    def test_the_function_is_where_the_document_says(self):
        self.assertEqual(treewords.grammar.answers(calls=[0]), [1, 0])

    def test_answers_in_full(self):
        shown = [
            ([0], [1, 0]),
            ([0, 1, 0, 0, 1, 0, 0, 2, 0, 0, 3, 0, 0, 0], [1, 0, 1, 0, 1, 1, 1, 1, 2, 0, 2]),
            ([0, 1, 0, 1, 0, 1, 0, 0, 2, 0, 0, 3, 0, 0, 0], [1, 0, 1, 0, 1, 1, 1, 1, 1, 1]),
            ([0, 1, 0, 1, 0, 2, 0, 0, 3, 0, 0, 0], [1, 0, 1, 0, 1, 0, 2, 0, 0]),
            ([0, 1, 256, 0, 3, 0, 1, 0, 3, 353, 0, 0], [1, 0, 1, -1, 1, -1, 2, 0, 0]),
            ([0, 1, 0, 2, 0, 0, 1, 0, 1, 353, 2, 0, 3, 97, 97, 97, 4, 0, 10, 4, 1, 10, 4, 2, 10, 4, 0, 4, 4, 0, 0],
             [1, 0, 1, 0, 1, 1, 1, 1, 6, 5, 0, 0, 1, 1, 1, 6, 5, 0, 1, 0, 1, 1, 1, -1, 1, -2, 1, -2]),
            ([0, 1, 0, 1, 0, 1, 0, 0, 2, 0, 0, 4, 0, 10, 7, 0], [1, 0, 1, 0, 1, 1, 1, 1, 1, -1, 1, 7]),
            ([0, 1, 0, 2, 353, 0, 1, 0, 1, 354, 2, 0, 1, 97, 5],
             [1, 0, 1, 0, 1, 1, 1, 0, 33, 2] + [0] * 12 + [6] + [0] * 19),
            ([0, 1, 0, 2, 1, 1, 1, 1, 1, 354, 1, 1, 1, 353, 6, 0, 10, 6, 0, 1, 6, 2, 10, 6, 353, 1, 6, 353, 0, 6, 512, 1],
             [1, 0, 1, 0, 1, 1, 1, 2, 3, 2, 97, 97, 1, -2, 1, -1, 2, 1, 97, 1, -2, 1, -1]),
            ([0, 1, 0, 2, 353, 0, 1, 0, 0, 1, 1, 2, 1, 1, 7, 0, 7, 1, 7, 353, 7, 512, 6, 0, 0],
             [1, 0, 1, 0, 1, 1, 1, 2, 1, 11, 1, 0, 1, 1, 1, -1, 1, 0]),
        ]
        for calls, asked in shown:
            with self.subTest(calls=calls):
                self.assertEqual(answers(calls), asked)

    def test_each_answer_has_its_length_ahead_of_it(self):
        calls = line(BEGIN, rule(0, "a"), rule(0, 0), text(0, "a"), count(0, 0, 1), count("a", 0, 1), count(0, 1, 0))
        self.assertEqual(answers(calls), [1, 0, 1, 0, 1, 1, 1, 1, 1, 1, 2, 0, 1, 1, -1])

    def test_a_refusal_is_its_number_alone(self):
        self.assertEqual(answers(line(BEGIN, rule(-1, "a", "b"), text(-1, "ab"), count(512, 0, 0))),
                         [1, 0, 1, -1, 1, -1, 1, -1])

    def test_what_is_handed_in_is_not_changed(self):
        calls = line(BEGIN, rule(0, 0, "a"), rule(0), rule(256, 3), text(0, "aaa"), count(0, 0, 3), BEGIN)
        before = list(calls)
        answers(calls)
        self.assertEqual(calls, before)

    def test_what_is_given_back_is_not_what_was_handed_in(self):
        calls = []
        self.assertIsNot(answers(calls), calls)

    def test_whole_numbers_are_never_true_or_false(self):
        numbers = answers(line(BEGIN, rule(0, "a"), text(0, "a"), text(0, "b"), count(0, 0, 1), count("b", 0, 1)))
        self.assertEqual({type(number) for number in numbers}, {int})
        self.assertIs(type(numbers), list)

    def test_one_list_knows_nothing_of_another(self):
        first = line(BEGIN, rule(0, "a"), rule(0), text(7, "aa"), count(0, 0, 1))
        self.assertEqual(answers(first), answers(first))
        self.assertEqual(answers([3, 0, 0, 0]), [2, 0, 0])
        self.assertEqual(answers([3, 0, 0, 1]), [1, -1])
        self.assertEqual(last(BEGIN, rule(3, "a")), [0])

    def test_a_list_without_begin_is_of_a_new_grammar(self):
        self.assertEqual(told(rule(0, "a"), text(0, "a"), count(0, 0, 1)), [[0], [1], [0, 1]])

    def test_a_list_of_60_calls_with_8_rules(self):
        calls = [BEGIN]
        asked = [[0]]
        for number in range(8):
            calls.append(rule(number, "a", *[number + 1] * (number < 7)))
            asked.append([number])
        for number in range(25):
            size = number % 7
            calls += [text(8 - size, "a" * size), count(8 - size, 0, size)]
            asked += [[1 if size else 0], [0, 1 if size else 0]]
        calls.append(BEGIN)
        asked.append([0])
        self.assertEqual(len(calls), 60)
        self.assertEqual(told(*calls), asked)

    def test_rows_are_read_by_their_length(self):
        rows = told(BEGIN, rule(0), rule(1, 3, 3, 3), text(0, ""), rule(2, *[2] * 16), text(0, "abcdef"), BEGIN)
        self.assertEqual(rows, [[0], [0], [1], [1], [2], [0], [0]])


class Begin(unittest.TestCase):

    def test_it_answers_0(self):
        self.assertEqual(told(BEGIN, BEGIN), [[0], [0]])

    def test_no_rules_are_left(self):
        rows = told(BEGIN, rule(0), rule(0), BEGIN, count(0, 0, 0), text(0, ""), rule(0))
        self.assertEqual(rows[4:], [[0, 0], [0], [0]])

    def test_the_room_for_rules_is_whole_again(self):
        full = [rule(0, *[0] * 16)] * 32
        self.assertEqual(last(BEGIN, *full, rule(0, 0)), [-2])
        self.assertEqual(last(BEGIN, *full, BEGIN, rule(0, 0)), [0])

    def test_the_text_is_empty(self):
        rows = told(BEGIN, rule(0, "a"), text(0, "a"), BEGIN, count("a", 0, 1), count("a", 0, 0))
        self.assertEqual(rows[4:], [[-1], [0, 0]])

    def test_the_start_is_0(self):
        grammar = treewords.grammar.Grammar()
        self.assertEqual(grammar.start, 0)
        grammar.set_text(9, [97])
        grammar.begin()
        self.assertEqual([grammar.start, grammar.text, grammar.rules], [0, [], []])


if __name__ == "__main__":
    unittest.main()
