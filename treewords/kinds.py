"""What is to be said of a symbol as a whole: whether it makes a text, the empty one, endlessly many."""

from treewords.reach import all_reached
from treewords.shortest import rules_of_some_tree, shortest_lengths
from treewords.symbols import is_byte

SOME_TEXT = 1
EMPTY_TEXT = 2
ENDLESS_TREES = 4
ENDLESS_TEXTS = 8


# For each part of each right: the left, the part, and its neighbours in that right.
def steps_down(rules):
    steps = []
    for left, right in rules:
        for at, symbol in enumerate(right):
            steps.append((left, symbol, right[:at] + right[at + 1:]))
    return steps


# For each left, where one comes to from it.
def reach_of_steps(steps):
    edges = {}
    for left, symbol, neighbours in steps:
        edges.setdefault(left, []).append(symbol)
    reach = {}
    for left in edges:
        reach[left] = all_reached(edges, left)
    return reach


def is_in_circle(step, reach):
    return step[0] in reach.get(step[1], {})


def all_make_nothing(neighbours, lengths):
    return all([lengths[symbol] == 0 for symbol in neighbours])


def makes_more_than_nothing(symbol, reach):
    return is_byte(symbol) or any([is_byte(other) for other in reach.get(symbol, {})])


def some_make_more(neighbours, reach):
    return any([makes_more_than_nothing(symbol, reach) for symbol in neighbours])


# A circle of steps whose neighbours may all be empty comes back to the name with no byte more: it may be gone
# round as often as one likes, and the text stays the same.
def has_endless_trees(steps, lengths):
    still = [step for step in steps if all_make_nothing(step[2], lengths)]
    reach = reach_of_steps(still)
    return any([is_in_circle(step, reach) for step in still])


# A circle makes ever longer texts if at one of its steps a neighbour makes more than nothing.
def has_endless_texts(steps, reach):
    growing = [step for step in steps if some_make_more(step[2], reach)]
    return any([is_in_circle(step, reach) for step in growing])


# Only rules that stand in some tree are looked at: a circle that makes no text brings neither trees nor texts.
def kind_of_symbol(rules, symbol):
    lengths = shortest_lengths(rules)
    if symbol not in lengths:
        return 0
    steps = steps_down(rules_of_some_tree(rules, lengths))
    reach = reach_of_steps(steps)
    within = reach.get(symbol, {})
    steps_within = [step for step in steps if step[0] in within]
    kind = SOME_TEXT
    if lengths[symbol] == 0:
        kind += EMPTY_TEXT
    if has_endless_trees(steps_within, lengths):
        kind += ENDLESS_TREES
    if has_endless_texts(steps_within, reach):
        kind += ENDLESS_TEXTS
    return kind
