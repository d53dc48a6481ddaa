"""How long the shortest text of each symbol is, and which text that is."""

from treewords.symbols import FIRST_BYTE, MOST_SYMBOL


def parts_known(known, right):
    return all([symbol in known for symbol in right])


def length_of_right(lengths, right):
    return sum([lengths[symbol] for symbol in right])


# For each symbol the least value of its rights, the bytes' symbols being known. Rules may stand in circles, as with
# 0 -> 1 and 1 -> 0, and so it goes on until nothing changes.
def least_of_each(rules, known, value_of_right):
    changed = True
    while changed:
        changed = False
        for left, right in rules:
            if parts_known(known, right):
                value = value_of_right(known, right)
                if left not in known or value < known[left]:
                    known[left] = value
                    changed = True
    return known


# A symbol that is not among them makes no text at all.
def shortest_lengths(rules):
    lengths = {}
    for symbol in range(FIRST_BYTE, MOST_SYMBOL + 1):
        lengths[symbol] = 1
    return least_of_each(rules, lengths, length_of_right)


# The rules that stand in some tree: one with a part that makes no text stands in none.
def rules_of_some_tree(rules, lengths):
    return [(left, right) for left, right in rules if parts_known(lengths, right)]


# The rules that stand in the trees of shortest texts, but of texts longer than most none: those may be
# longer than any list.
def shortest_rules(rules, lengths, most):
    useful = rules_of_some_tree(rules, lengths)
    return [(left, right) for left, right in useful if length_of_right(lengths, right) == lengths[left] <= most]


def text_of_right(texts, right):
    text = []
    for symbol in right:
        text.extend(texts[symbol])
    return text


# All shortest texts of a part are of one length: so the first text of a right is the first texts of its parts.
def shortest_texts(rules, lengths, most):
    texts = {}
    for symbol in range(FIRST_BYTE, MOST_SYMBOL + 1):
        texts[symbol] = [symbol - FIRST_BYTE]
    return least_of_each(shortest_rules(rules, lengths, most), texts, text_of_right)
