"""Calls written out for the tests, and slow second ways to the answers."""

from treewords.grammar import answers

TWO_TO_64 = 2 ** 64
LEAST = -2147483648
MOST = 2147483647
BEGIN = [0]
NEXT = [5]


def byte(sign):
    return 256 + ord(sign)


def rule(left, *right):
    """A rule whose right has numbers, and signs for the bytes' symbols."""
    symbols = [byte(part) if isinstance(part, str) else part for part in right]
    return [1, left, len(symbols)] + symbols


def text(start, signs):
    return [2, start, len(signs)] + [ord(sign) for sign in signs]


def count(symbol, i, j):
    return [3, byte(symbol) if isinstance(symbol, str) else symbol, i, j]


def tree(k, most=65536):
    return [4, k, most]


def short(symbol, most=65536):
    return [6, byte(symbol) if isinstance(symbol, str) else symbol, most]


def kind(symbol):
    return [7, byte(symbol) if isinstance(symbol, str) else symbol]


def tower(floors, first=0):
    """Rules of names one above another, each of which is 16 of the next one."""
    return [rule(name, *[name + 1] * 16) for name in range(first, first + floors)]


def some_rules(source, most_right=3):
    """Rules for three names, with one name more that has none; most of them short, some in circles."""
    rules = []
    for number in range(source.randint(1, 8)):
        size = min(source.choice((0, 0, 1, 1, 1, 2, 2, 3)), most_right)
        rules.append((source.randint(0, 2), [source.choice((0, 1, 2, 2, 3, 353, 353, 354)) for part in range(size)]))
    return rules


def as_calls(rules):
    return [BEGIN] + [rule(left, *right) for left, right in rules]


def line(*calls):
    return [number for call in calls for number in call]


def told(*calls):
    """The answers, a list for each call."""
    numbers = answers(line(*calls))
    split = []
    at = 0
    while at < len(numbers):
        split.append(numbers[at + 1:at + 1 + numbers[at]])
        at += 1 + numbers[at]
    assert at == len(numbers), numbers
    assert len(split) == len(calls), (calls, split)
    return split


def last(*calls):
    return told(*calls)[-1]


def splits(i, j, parts):
    """All ways to cut i to below j in so many pieces, as lists of borders."""
    if parts == 0:
        return [[i]] if i == j else []
    return [[i] + rest for k in range(i, j + 1) for rest in splits(k, j, parts - 1)]


def derivations(rules, signs):
    """For each name and piece: the ways to make it in one step, as a rule's number and a list of (name, i, j)."""
    size = len(signs)
    steps = {}
    for i in range(size + 1):
        for j in range(i, size + 1):
            for number, (left, right) in enumerate(rules):
                for borders in splits(i, j, len(right)):
                    parts = list(zip(right, borders, borders[1:]))
                    if all(s < 256 or (b == a + 1 and ord(signs[a]) == s - 256) for s, a, b in parts):
                        names = [part for part in parts if part[0] < 256]
                        steps.setdefault((left, i, j), []).append((number, names))
    return steps


def one_higher(steps, lower, newest):
    """How many trees (modulo 2^64) and whether there are some of exactly the next height."""
    counts = {}
    heights = {}
    for key, ways in steps.items():
        for number, names in ways:
            if all(part in lower for part in names):
                product = 1
                for part in names:
                    product = product * lower[part] % TWO_TO_64
                counts[key] = (counts.get(key, 0) + product) % TWO_TO_64
                if newest is None and not names or newest and any(part in newest for part in names):
                    heights[key] = True
    return counts, heights


def slow_counts(rules, signs):
    """For each name and piece that has a tree: [0, how many modulo 2^64] or [1].

    It goes by height. With p pairs of a name and a piece, a tree higher than p meets one pair twice on a way
    down, so there are endlessly many; and if there are, some tree is higher than p and at most 2 p + 1 high.
    """
    steps = derivations(rules, signs)
    pairs = len(steps)
    counts, newest = one_higher(steps, {}, None)
    finite = dict(counts)
    endless = {}
    for height in range(2, 2 * pairs + 3):
        counts, newest = one_higher(steps, counts, newest)
        if height <= pairs:
            finite = dict(counts)
        else:
            endless.update(newest)
    return {key: [1] if key in endless else [0, finite[key]] for key in counts}


def slow_trees(rules, signs, name):
    """The rules of all trees of a name with the whole text, in order, where they are finitely many."""
    steps = derivations(rules, signs)

    def trees(piece, above):
        if piece in above:
            return []
        found = []
        for number, names in steps.get(piece, []):
            lists = [[number]]
            for part in names:
                lists = [one + other for one in lists for other in trees(part, above + [piece])]
            found += lists
        return found

    return sorted(trees((name, 0, len(signs)), []))


def slow_next(rules, signs, start):
    """The bytes that may come next: for each, which states of a machine a symbol may lead from and to.

    The machine's states are the text's places, and one more, to which the byte leads and every byte from there.
    """
    text_bytes = [ord(sign) for sign in signs]
    size = len(signs)
    found = []
    for candidate in sorted({symbol - 256 for left, right in rules for symbol in right if symbol >= 256}):
        pairs = {symbol: {(size + 1, size + 1)} for symbol in range(256, 512)}
        for place, number in enumerate(text_bytes + [candidate]):
            pairs[256 + number].add((place, place + 1))
        if (0, size + 1) in pairs_of_names(rules, pairs, size + 2).get(start, set()):
            found.append(candidate)
    return found


def pairs_of_names(rules, pairs, states):
    before = None
    while before != sum(len(some) for some in pairs.values()):
        before = sum(len(some) for some in pairs.values())
        for left, right in rules:
            ways = {(state, state) for state in range(states)}
            for symbol in right:
                ways = {(a, d) for a, b in ways for c, d in pairs.get(symbol, set()) if b == c}
            pairs.setdefault(left, set()).update(ways)
    return pairs


def slow_texts(rules, most):
    """For each name, all its texts that are no longer than most."""
    texts = {}
    before = None
    while before != sum(len(some) for some in texts.values()):
        before = sum(len(some) for some in texts.values())
        for left, right in rules:
            made = {()}
            for symbol in right:
                parts = {(symbol - 256,)} if symbol >= 256 else texts.get(symbol, set())
                made = {one + other for one in made for other in parts if len(one + other) <= most}
            texts.setdefault(left, set()).update(made)
    return texts


def slow_kinds(rules, names):
    """Kinds by the lengths of texts up to 40, height of trees by height of trees, until all comes again.

    It holds for three names and rights of at most 2. A tree with no name twice on a way down has at most 8
    bytes then: a longer text has a part that can be taken out or put in again and again. With 8 at the most
    beside each step, 40 bytes are room enough for whatever there is to be found.
    """
    low = {}
    newest = {}
    for left, right in rules:
        if all(symbol >= 256 for symbol in right):
            newest[left] = newest.get(left, 0) | 1 << len(right)
    states = []
    while (low, newest) not in states:
        states.append((low, newest))
        low = {name: low.get(name, 0) | newest.get(name, 0) for name in {**low, **newest}}
        newest = lengths_one_higher(rules, low, newest)
    again = states[states.index((low, newest)):]
    kinds = {}
    for name in names:
        lengths = low.get(name, 0)
        endless = any(state[1].get(name, 0) for state in again)
        kinds[name] = bool(lengths) + 2 * (lengths & 1) + 4 * endless + 8 * bool(lengths >> 9)
    return kinds


def lengths_one_higher(rules, low, newest):
    higher = {}
    for left, right in rules:
        for at, chosen in enumerate(right):
            if newest.get(chosen, 0):
                lengths = newest[chosen]
                for symbol in right[:at] + right[at + 1:]:
                    lengths = sums(lengths, low.get(symbol, 0) if symbol < 256 else 2)
                if lengths:
                    higher[left] = higher.get(left, 0) | lengths
    return higher


def sums(one, other):
    """The lengths that are a length of the one and one of the other, as bits, up to 40."""
    found = 0
    for bit in range(41):
        if one >> bit & 1:
            found |= other << bit
    return found & (1 << 41) - 1
