"""The calls on a grammar, and their answers."""

from treewords.trees import ENDLESS, tree_table

MOST_NAME = 255
MOST_SYMBOL = 511
MOST_RIGHT = 16
MOST_RULES = 128
MOST_OF_ALL_RIGHTS = 512
MOST_TEXT = 64

OUT_OF_RANGE = -1
NO_ROOM = -2

BEGIN = 0
RULE = 1
TEXT = 2
COUNT = 3

# By a call's number: how many whole numbers it has ahead of its row, if it has one.
PLAIN_NUMBERS = {0: 0, 1: 1, 2: 1, 3: 3}


class Grammar:

    def __init__(self):
        self.begin()

    def begin(self):
        self.rules = []
        self.start = 0
        self.change_text([])
        return [0]

    # The table is made when it is first asked for: many rules may come ahead of that.
    def change_text(self, text):
        self.text = text
        self.table = None

    def add_rule(self, left, right):
        if not 0 <= left <= MOST_NAME or len(right) > MOST_RIGHT or not all_symbols(right):
            return [OUT_OF_RANGE]
        if len(self.rules) >= MOST_RULES or self.length_of_rights() + len(right) > MOST_OF_ALL_RIGHTS:
            return [NO_ROOM]
        self.rules.append((left, right))
        self.change_text([])
        return [len(self.rules) - 1]

    def length_of_rights(self):
        return sum([len(right) for left, right in self.rules])

    def set_text(self, start, text):
        if not 0 <= start <= MOST_NAME or len(text) > MOST_TEXT:
            return [OUT_OF_RANGE]
        self.start = start
        self.change_text(text)
        return [1 if len(text) in self.trees_by_end(start, 0) else 0]

    def count_trees(self, symbol, i, j):
        if not is_symbol(symbol) or not 0 <= i <= j <= len(self.text):
            return [OUT_OF_RANGE]
        trees = self.trees_by_end(symbol, i).get(j, 0)
        if trees == ENDLESS:
            return [1]
        return [0, trees]

    def trees_by_end(self, symbol, place):
        if self.table is None:
            self.table = tree_table(self.rules, self.text)
        return self.table.get((symbol, place), {})


def is_symbol(number):
    return 0 <= number <= MOST_SYMBOL


def all_symbols(numbers):
    return all([is_symbol(number) for number in numbers])


def end_of_call(calls, at):
    number = calls[at]
    end = at + 1 + PLAIN_NUMBERS[number]
    if number == RULE or number == TEXT:
        end += 1 + calls[end]
    return end


def answer(grammar, call):
    number = call[0]
    if number == BEGIN:
        return grammar.begin()
    if number == RULE:
        return grammar.add_rule(call[1], call[3:])
    if number == TEXT:
        return grammar.set_text(call[1], call[3:])
    return grammar.count_trees(call[1], call[2], call[3])


def answers(calls):
    grammar = Grammar()
    told = []
    at = 0
    while at < len(calls):
        end = end_of_call(calls, at)
        numbers = answer(grammar, calls[at:end])
        told.append(len(numbers))
        told.extend(numbers)
        at = end
    return told
