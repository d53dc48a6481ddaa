"""The calls on a grammar, and their answers."""

from treewords.following import bytes_behind, rows_of_bits
from treewords.kinds import kind_of_symbol
from treewords.shortest import shortest_lengths, shortest_texts
from treewords.symbols import all_symbols, is_name, is_symbol
from treewords.trees import ENDLESS, MODULUS, tree_table
from treewords.walk import Walk

MOST_RIGHT = 16
MOST_RULES = 128
MOST_OF_ALL_RIGHTS = 512
MOST_TEXT = 64
MOST_TOLD = 65536

OUT_OF_RANGE = -1
NONE_THERE = -1
NO_ROOM = -2

BEGIN = 0
RULE = 1
TEXT = 2
COUNT = 3
TREE = 4
NEXT = 5
SHORT = 6

# By a call's number: how many whole numbers it has ahead of its row, if it has one.
PLAIN_NUMBERS = {0: 0, 1: 1, 2: 1, 3: 3, 4: 2, 5: 0, 6: 2, 7: 1}


class Grammar:

    def __init__(self):
        self.begin()

    def begin(self):
        self.start = 0
        self.change_rules([])
        return [0]

    # The shortest texts, like the table below, are made when they are first asked for: many rules may come ahead
    # of that.
    def change_rules(self, rules):
        self.rules = rules
        self.shortest = None
        self.change_text([])

    def change_text(self, text):
        self.text = text
        self.table = None

    def add_rule(self, left, right):
        if not is_name(left) or len(right) > MOST_RIGHT or not all_symbols(right):
            return [OUT_OF_RANGE]
        if len(self.rules) >= MOST_RULES or self.length_of_rights() + len(right) > MOST_OF_ALL_RIGHTS:
            return [NO_ROOM]
        self.change_rules(self.rules + [(left, right)])
        return [len(self.rules) - 1]

    def length_of_rights(self):
        return sum([len(right) for left, right in self.rules])

    def set_text(self, start, text):
        if not is_name(start) or len(text) > MOST_TEXT:
            return [OUT_OF_RANGE]
        self.start = start
        self.change_text(text)
        return [1 if len(text) in self.trees_by_end(start, 0) else 0]

    def count_trees(self, symbol, i, j):
        if not is_symbol(symbol) or not 0 <= i <= j <= len(self.text):
            return [OUT_OF_RANGE]
        trees = self.trees_by_end(symbol, i).get(j, 0)
        if trees == ENDLESS:
            return [1]
        return [0, trees % MODULUS]

    def pick_tree(self, k, most):
        trees = self.trees_by_end(self.start, 0).get(len(self.text), 0)
        if trees == ENDLESS or trees <= k:
            return [NONE_THERE]
        if not 1 <= most <= MOST_TOLD:
            return [NO_ROOM]
        numbers = Walk(self.rules, self.table, len(self.text), k).rules_up_to(self.start, most)
        if len(numbers) > most:
            return [NO_ROOM]
        return [len(numbers)] + numbers

    def next_bytes(self):
        numbers = bytes_behind(self.rules, self.whole_table(), self.start, len(self.text))
        return [len(numbers)] + rows_of_bits(numbers)

    # A number outside 0 to 511 is none that makes a text either.
    def short_text(self, symbol, most):
        lengths = shortest_lengths(self.rules)
        if symbol not in lengths:
            return [NONE_THERE]
        if lengths[symbol] > (most if 1 <= most <= MOST_TOLD else 0):
            return [NO_ROOM]
        if self.shortest is None:
            self.shortest = shortest_texts(self.rules, lengths, MOST_TOLD)
        return [lengths[symbol]] + self.shortest[symbol]

    def tell_kind(self, symbol):
        if not is_symbol(symbol):
            return [OUT_OF_RANGE]
        return [kind_of_symbol(self.rules, symbol)]

    def trees_by_end(self, symbol, place):
        return self.whole_table().get((symbol, place), {})

    def whole_table(self):
        if self.table is None:
            self.table = tree_table(self.rules, self.text)
        return self.table


def end_of_call(calls, at):
    number = calls[at]
    end = at + 1 + PLAIN_NUMBERS[number]
    if number == RULE or number == TEXT:
        end += 1 + calls[end]
    return end


def answer(grammar, call):
    number = call[0]
    if number == BEGIN:
        return grammar.begin()
    if number == RULE:
        return grammar.add_rule(call[1], call[3:])
    if number == TEXT:
        return grammar.set_text(call[1], call[3:])
    if number == COUNT:
        return grammar.count_trees(call[1], call[2], call[3])
    if number == TREE:
        return grammar.pick_tree(call[1], call[2])
    if number == NEXT:
        return grammar.next_bytes()
    if number == SHORT:
        return grammar.short_text(call[1], call[2])
    return grammar.tell_kind(call[1])


def answers(calls):
    grammar = Grammar()
    told = []
    at = 0
    while at < len(calls):
        end = end_of_call(calls, at)
        numbers = answer(grammar, calls[at:end])
        told.append(len(numbers))
        told.extend(numbers)
        at = end
    return told
