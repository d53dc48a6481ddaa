"""The rules of one tree among all trees with a text, found by its number in their order.

Rule by rule, the leftmost name that is still closed is opened. So the rules that are told settle how much of the
text is made, and which symbols are still to come. Whatever the next rule is, one knows with it how many trees begin
with all the rules told and it, and where the order puts them: how a right is cut into parts plays no role.

Ways are a dict: for each place that can be come to, in how many ways. What is behind a symbol is such a dict too:
for each place from which all that is still to come makes the rest of the text, in how many ways.
"""

from treewords.symbols import is_byte
from treewords.trees import plus, times

# Of the parts of a name from a place on, so many are kept, the newest: looking through more takes longer than it saves.
MOST_KEPT = 8


def add_ways(ways, more, factor):
    for end, trees in more.items():
        ways[end] = plus(ways.get(end, 0), times(factor, trees))


# The ways first, and from each place that they come to, the ways that go on from there.
def ways_through(first, further):
    ways = {}
    for middle, trees in first.items():
        add_ways(ways, further[middle], trees)
    return ways


# For a right, for what is left of it without its first symbol, and so on down to nothing: the ways from each place.
def ways_of_rests(table, right, size):
    rests = [[{place: 1} for place in range(size + 1)]]
    for symbol in reversed(right):
        rests.append([ways_through(table.get((symbol, place), {}), rests[-1]) for place in range(size + 1)])
    rests.reverse()
    return rests


def trees_in_all(ways, behind):
    total = 0
    for end, trees in ways.items():
        if end in behind:
            total = plus(total, times(trees, behind[end]))
    return total


# A tree of a name from a place on, as far as the walk has come with it. For each end, ahead tells how many trees of
# the name from that place to that end come before it.
class Part:

    def __init__(self, number, place, told_before, ahead, behind):
        self.number = number
        self.place = place
        self.told_before = told_before
        self.ahead = ahead
        self.behind = behind
        self.done = 0
        self.numbers = []
        self.end = place


# To walk is allowed only where the trees are finitely many, and more than those that are to be skipped.
class Walk:

    def __init__(self, rules, table, size, skipped):
        self.rules = rules
        self.table = table
        self.size = size
        self.skipped = skipped
        self.place = 0
        self.told = []
        self.parts = []
        self.rests = {}
        self.kept = {}

    # Once there are more rules than most, it doesn't matter how many more there would be.
    def rules_up_to(self, start, most):
        self.open_name(start, {self.size: 1})
        while self.parts and len(self.told) <= most:
            self.go_on_with(self.parts[-1])
        return self.told

    def go_on_with(self, part):
        right = self.rules[part.number][1]
        if part.done == len(right):
            self.close_part()
        elif is_byte(right[part.done]):
            self.place += 1
            part.done += 1
        else:
            self.take_name(right[part.done], self.behind_next_symbol(part))

    def behind_next_symbol(self, part):
        behind = {}
        for place, ways in enumerate(self.rests_of_rule(part.number)[part.done + 1]):
            trees = trees_in_all(ways, part.behind)
            if trees != 0:
                behind[place] = trees
        return behind

    def rests_of_rule(self, number):
        if number not in self.rests:
            self.rests[number] = ways_of_rests(self.table, self.rules[number][1], self.size)
        return self.rests[number]

    # A part that has been walked before is told at one stroke if it is the one that stands here. Else a tree of
    # very many rules, most of its parts alike, would be walked rule by rule.
    def take_name(self, name, behind):
        for part in self.kept.get((name, self.place), []):
            ahead = trees_in_all(part.ahead, behind)
            if part.end in behind and ahead <= self.skipped < plus(ahead, behind[part.end]):
                self.skipped -= ahead
                self.told.extend(part.numbers)
                self.place = part.end
                self.put_into_last(part)
                return
        self.open_name(name, behind)

    def open_name(self, name, behind):
        ahead = {}
        for number, rule in enumerate(self.rules):
            if rule[0] == name:
                ways = self.rests_of_rule(number)[0][self.place]
                trees = trees_in_all(ways, behind)
                if self.skipped < trees:
                    self.parts.append(Part(number, self.place, len(self.told), ahead, behind))
                    self.told.append(number)
                    return
                self.skipped -= trees
                add_ways(ahead, ways, 1)

    def close_part(self):
        part = self.parts.pop()
        part.numbers = self.told[part.told_before:]
        part.end = self.place
        spot = (self.rules[part.number][0], part.place)
        self.kept[spot] = [part] + self.kept.get(spot, [])[:MOST_KEPT - 1]
        if self.parts:
            self.put_into_last(part)

    # What comes ahead of a part comes, with all that may stand behind it in the right, ahead of the whole.
    def put_into_last(self, part):
        whole = self.parts[-1]
        whole.done += 1
        add_ways(whole.ahead, ways_through(part.ahead, self.rests_of_rule(whole.number)[whole.done]), 1)
