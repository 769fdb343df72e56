"""Tables: how many trees of each kind a grammar has for each stretch of a sentence."""

from clausewood.rules import check_grammar


class Table:
    # Each number is kept twice, by start and by stop: so what stands left and right of all cuts
    # of one stretch lies in one list each.
    def __init__(self, rules, words):
        self.rules = rules
        self.words = words
        self.by_start = {}
        self.by_stop = {}

    def put(self, kind, start, stop, many):
        size = len(self.words) + 1
        if (kind, start) not in self.by_start:
            self.by_start[(kind, start)] = [0] * size
        if (kind, stop) not in self.by_stop:
            self.by_stop[(kind, stop)] = [0] * size
        self.by_start[(kind, start)][stop] = many
        self.by_stop[(kind, stop)][start] = many

    def many(self, kind, start, stop):
        if (kind, start) not in self.by_start:
            return 0
        return self.by_start[(kind, start)][stop]

    def by_cut(self, rule, start, stop):
        # For the cuts from one on; no number at all where one of the two kinds has no tree that could stand there.
        if (rule[1], start) not in self.by_start or (rule[2], stop) not in self.by_stop:
            return []
        lefts = self.by_start[(rule[1], start)][start + 1:stop]
        rights = self.by_stop[(rule[2], stop)][start + 1:stop]
        return [left * right for left, right in zip(lefts, rights)]


def joining_rules(rules):
    return [rule for rule in rules if len(rule) == 3]


def put_leaves(table):
    for start, word in enumerate(table.words):
        for rule in table.rules:
            if len(rule) == 2 and rule[1] == word:
                table.put(rule[0], start, start + 1, 1)


def put_stretch(table, joins, start, stop):
    found = {}
    # Rules with the same two parts have the same sum: it is the dear step, so it is made once.
    sums = {}
    for rule in joins:
        pair = (rule[1], rule[2])
        if pair not in sums:
            sums[pair] = sum(table.by_cut(rule, start, stop))
        found[rule[0]] = found.get(rule[0], 0) + sums[pair]
    for kind, many in found.items():
        if many > 0:
            table.put(kind, start, stop, many)


def filled_table(rules, words):
    check_grammar(rules)
    table = Table(rules, words)
    put_leaves(table)
    joins = joining_rules(rules)
    # The shorter stretches first, since the longer ones are put together from them.
    for length in range(2, len(words) + 1):
        for start in range(len(words) - length + 1):
            put_stretch(table, joins, start, start + length)
    return table


def table_of(rules, words):
    table = filled_table(rules, words)
    kinds = sorted(set([rule[0] for rule in rules]))
    rows = []
    for start in range(len(words)):
        for stop in range(start + 1, len(words) + 1):
            for kind in kinds:
                many = table.many(kind, start, stop)
                if many > 0:
                    rows.append((start, stop, kind, many))
    return rows


def how_many(rules, words, kind):
    return filled_table(rules, words).many(kind, 0, len(words))
