"""The trees of a grammar for a sentence: told by their places, known again, and the places of trees."""

from clausewood.errors import NoTree
from clausewood.rules import check_grammar
from clausewood.shapes import cut_of, is_leaf, parting, parts_of, rule_of, words_of
from clausewood.tables import filled_table, joining_rules


class Spot:
    # Tells one tree of a table before it is put together.
    def __init__(self, kind, start, stop, place):
        self.kind = kind
        self.start = start
        self.stop = stop
        self.place = place


def choices(table, kind, start, stop):
    # The order of places: the rules as they stand, then the lesser cut. Left and right parts come below.
    found = []
    for rule in joining_rules(table.rules):
        if rule[0] == kind:
            for cut, many in enumerate(table.by_cut(rule, start, stop), start=1):
                found.append((rule, cut, many))
    return found


def spots_below(table, spot):
    rest = spot.place
    for rule, cut, many in choices(table, spot.kind, spot.start, spot.stop):
        if rest < many:
            middle = spot.start + cut
            # For each left part all right parts follow one another.
            rights = table.many(rule[2], middle, spot.stop)
            left = Spot(rule[1], spot.start, middle, rest // rights)
            right = Spot(rule[2], middle, spot.stop, rest % rights)
            return [left, right]
        rest -= many
    return []


def spots_from(table, top):
    # Each ahead of those below it, and the left one with all below it ahead of the right one.
    spots = []
    waiting = [top]
    while waiting:
        spot = waiting.pop()
        spots.append(spot)
        waiting.extend(list(reversed(spots_below(table, spot))))
    return spots


def grown(table, top):
    trees = []
    # From the last one back, so both parts are there, the left one on top, when a tree is put together.
    for spot in reversed(spots_from(table, top)):
        if spot.stop == spot.start + 1:
            trees.append((spot.kind, table.words[spot.start]))
        else:
            left = trees.pop()
            right = trees.pop()
            trees.append((spot.kind, left, right))
    return trees.pop()


def top_at(table, kind, place):
    return grown(table, Spot(kind, 0, len(table.words), place))


def tree_at(rules, words, kind, place):
    table = filled_table(rules, words)
    if not 0 <= place < table.many(kind, 0, len(words)):
        # The place isn't shown: Python refuses to write out a number with very many digits.
        raise NoTree(f"there is no such place among the trees of the kind {kind!r}")
    return top_at(table, kind, place)


def has_kind(thing):
    return isinstance(thing, tuple) and len(thing) > 0 and isinstance(thing[0], str)


def has_top(thing):
    # Texts only are looked at, no deeper than the kinds of both parts: a thing may be nested however deep.
    if not has_kind(thing):
        return False
    if len(thing) == 2:
        return isinstance(thing[1], str)
    return len(thing) == 3 and has_kind(thing[1]) and has_kind(thing[2])


def is_tree(rules, words, thing):
    check_grammar(rules)
    seen = 0
    waiting = [thing]
    # Each part that waits asks for a word at least: the walk ends where they ask for more than there are.
    while waiting and seen + len(waiting) <= len(words):
        part = waiting.pop()
        if not has_top(part) or rule_of(part) not in rules:
            return False
        if not is_leaf(part):
            waiting.append(part[2])
            waiting.append(part[1])
        elif part[1] == words[seen]:
            seen += 1
        else:
            return False
    return not waiting and seen == len(words)


def made_ahead(table, tree, start, stop):
    # How many trees stand ahead by their rule or their cut alone.
    made_by = rule_of(tree)
    own_cut = cut_of(tree)
    ahead = 0
    for rule, cut, many in choices(table, tree[0], start, stop):
        if rule == made_by and cut == own_cut:
            break
        ahead += many
    return ahead


def place_among(table, tree, start, left_place, right_place):
    stop = start + len(words_of(tree))
    rights = table.many(tree[2][0], start + cut_of(tree), stop)
    return made_ahead(table, tree, start, stop) + left_place * rights + right_place


def place_of(rules, words, thing):
    if not is_tree(rules, words, thing):
        # The thing isn't shown: it may be nested too deep to be written out.
        raise NoTree("this is no tree of the grammar for the sentence")
    table = filled_table(rules, words)
    places = []
    start = len(words)
    # From the last part back: the leaf met last is then the first one of the tree that is looked at.
    for part in reversed(parts_of(thing)):
        if is_leaf(part):
            start -= 1
            places.append(0)
        else:
            left_place = places.pop()
            right_place = places.pop()
            places.append(place_among(table, part, start, left_place, right_place))
    return places.pop()


def two_ways(rules, words, kind):
    table = filled_table(rules, words)
    if table.many(kind, 0, len(words)) < 2:
        return None
    one = top_at(table, kind, 0)
    other = top_at(table, kind, 1)
    return (one, other, parting(one, other))
