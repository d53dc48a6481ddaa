"""Calls written out for the tests, and a slow second way to count trees."""

from treewords.grammar import answers

TWO_TO_64 = 2 ** 64
LEAST = -2147483648
MOST = 2147483647
BEGIN = [0]


def byte(sign):
    return 256 + ord(sign)


def rule(left, *right):
    """A rule whose right has numbers, and signs for the bytes' symbols."""
    symbols = [byte(part) if isinstance(part, str) else part for part in right]
    return [1, left, len(symbols)] + symbols


def text(start, signs):
    return [2, start, len(signs)] + [ord(sign) for sign in signs]


def count(symbol, i, j):
    return [3, byte(symbol) if isinstance(symbol, str) else symbol, i, j]


def line(*calls):
    return [number for call in calls for number in call]


def told(*calls):
    """The answers, a list for each call."""
    numbers = answers(line(*calls))
    split = []
    at = 0
    while at < len(numbers):
        split.append(numbers[at + 1:at + 1 + numbers[at]])
        at += 1 + numbers[at]
    assert at == len(numbers), numbers
    assert len(split) == len(calls), (calls, split)
    return split


def last(*calls):
    return told(*calls)[-1]


def splits(i, j, parts):
    """All ways to cut i to below j in so many pieces, as lists of borders."""
    if parts == 0:
        return [[i]] if i == j else []
    return [[i] + rest for k in range(i, j + 1) for rest in splits(k, j, parts - 1)]


def derivations(rules, signs):
    """For each name and piece: the ways to make it in one step, as lists of (symbol, i, j)."""
    size = len(signs)
    steps = {}
    for i in range(size + 1):
        for j in range(i, size + 1):
            for left, right in rules:
                for borders in splits(i, j, len(right)):
                    parts = list(zip(right, borders, borders[1:]))
                    if all(s < 256 or (b == a + 1 and ord(signs[a]) == s - 256) for s, a, b in parts):
                        names = [part for part in parts if part[0] < 256]
                        steps.setdefault((left, i, j), []).append(names)
    return steps


def one_higher(steps, lower, newest):
    """How many trees (modulo 2^64) and whether there are some of exactly the next height."""
    counts = {}
    heights = {}
    for key, ways in steps.items():
        for names in ways:
            if all(part in lower for part in names):
                product = 1
                for part in names:
                    product = product * lower[part] % TWO_TO_64
                counts[key] = (counts.get(key, 0) + product) % TWO_TO_64
                if newest is None and not names or newest and any(part in newest for part in names):
                    heights[key] = True
    return counts, heights


def slow_counts(rules, signs):
    """For each name and piece that has a tree: [0, how many modulo 2^64] or [1].

    It goes by height. With p pairs of a name and a piece, a tree higher than p meets one pair twice on a way
    down, so there are endlessly many; and if there are, some tree is higher than p and at most 2 p + 1 high.
    """
    steps = derivations(rules, signs)
    pairs = len(steps)
    counts, newest = one_higher(steps, {}, None)
    finite = dict(counts)
    endless = {}
    for height in range(2, 2 * pairs + 3):
        counts, newest = one_higher(steps, counts, newest)
        if height <= pairs:
            finite = dict(counts)
        else:
            endless.update(newest)
    return {key: [1] if key in endless else [0, finite[key]] for key in counts}
