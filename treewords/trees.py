"""How many trees each symbol has with each piece of a text.

A table has, for a symbol and a place, a dict: for each end such that the symbol makes the text from the place
to below the end, how many trees it has with that piece, narrowed, or ENDLESS. An end that is not there has no
tree.
"""

from treewords.symbols import FIRST_BYTE

MODULUS = 18446744073709551616
ENDLESS = -1


# Counts may have more digits than there is room for. What is asked of them stays: how many they are modulo 2^64,
# and, as long as they are below 2^64, how many in truth. Sums and products of narrowed counts are right again.
def narrowed(count):
    if count < MODULUS:
        return count
    return MODULUS + count % MODULUS


def plus(one, other):
    if one == ENDLESS or other == ENDLESS:
        return ENDLESS
    return narrowed(one + other)


# Both have at least one tree, or they were not in the table: so ENDLESS is never met by a 0 here.
def times(one, other):
    if one == ENDLESS or other == ENDLESS:
        return ENDLESS
    return narrowed(one * other)


def with_symbol_behind(table, ways, symbol):
    longer = {}
    for place, before in ways.items():
        for end, trees in table.get((symbol, place), {}).items():
            longer[end] = plus(longer.get(end, 0), times(before, trees))
    return longer


def ways_of_right(table, right, place):
    ways = {place: 1}
    for symbol in right:
        ways = with_symbol_behind(table, ways, symbol)
    return ways


def ways_of_rights(table, rights, place):
    ways = {}
    for right in rights:
        for end, trees in ways_of_right(table, right, place).items():
            ways[end] = plus(ways.get(end, 0), trees)
    return ways


def rights_of_lefts(rules):
    rights = {}
    for left, right in rules:
        rights.setdefault(left, []).append(right)
    return rights


def byte_table(text):
    table = {}
    for place, byte in enumerate(text):
        table[(FIRST_BYTE + byte, place)] = {place + 1: 1}
    return table


# What is found is ENDLESS until it is counted. Every end is found before one is counted, because a count
# that came earlier would miss the trees that a later end brings.
def find_ends(table, lefts, place):
    found = True
    while found:
        found = False
        for left, rights in lefts.items():
            ends = table.setdefault((left, place), {})
            for end in ways_of_rights(table, rights, place):
                if end not in ends:
                    ends[end] = ENDLESS
                    found = True


# A count is known as soon as those of all parts are. What never comes to be known has a circle below it,
# and as all that stands in the table has a tree, the circle may be gone round as often as one likes.
def count_ends(table, lefts, place):
    changed = True
    while changed:
        changed = False
        for left, rights in lefts.items():
            ways = ways_of_rights(table, rights, place)
            if ways != table[(left, place)]:
                table[(left, place)] = ways
                changed = True


# From the last place to the first, because a piece's parts begin where it begins or further right.
def tree_table(rules, text):
    lefts = rights_of_lefts(rules)
    table = byte_table(text)
    for place in range(len(text), -1, -1):
        find_ends(table, lefts, place)
        count_ends(table, lefts, place)
    return table
