"""Which bytes may come next behind a text."""

from treewords.reach import all_reached
from treewords.shortest import rules_of_some_tree, shortest_lengths
from treewords.symbols import FIRST_BYTE, is_byte
from treewords.trees import with_symbol_behind

ROWS = 32
BITS = 8


# The symbols of a right, each with every place at which it may begin if the right begins at that place.
def spots_of_right(table, right, place):
    spots = []
    ways = {place: 1}
    for symbol in right:
        spots.extend([(symbol, begin) for begin in ways])
        ways = with_symbol_behind(table, ways, symbol)
    return spots


# A symbol that begins somewhere lets its rights begin there. What stands behind a part need not be looked at:
# with rules that stand in some tree it can always be finished.
def edges_between_spots(rules, table, size):
    edges = {}
    for place in range(size + 1):
        for left, right in rules:
            edges.setdefault((left, place), []).extend(spots_of_right(table, right, place))
    return edges


# A byte may come next if its symbol may begin where the text ends.
def bytes_behind(rules, table, start, size):
    useful = rules_of_some_tree(rules, shortest_lengths(rules))
    spots = all_reached(edges_between_spots(useful, table, size), (start, 0))
    return [symbol - FIRST_BYTE for symbol, place in spots if place == size and is_byte(symbol)]


def row_of_bits(numbers, row):
    bits = 0
    for bit in range(BITS - 1, -1, -1):
        bits = 2 * bits + (1 if row * BITS + bit in numbers else 0)
    return bits


def rows_of_bits(numbers):
    return [row_of_bits(numbers, row) for row in range(ROWS)]
