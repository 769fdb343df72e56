"""Trees for the tests, and plain ways to the answers, put together word for word as the document tells them."""

import functools

# Every tree with these words and the one kind is a tree of this grammar.
ANY_SHAPE = [("A", "A", "A"), ("A", "x")]
# A small grammar with more trees than one: the saw may belong to the seeing or to the dog.
SEEING = [
    ("S", "N", "V"), ("V", "V", "P"), ("V", "See", "N"), ("N", "N", "P"), ("P", "With", "N"),
    ("N", "I"), ("N", "dogs"), ("N", "saws"), ("See", "see"), ("With", "with"),
]
SEEN = ["I", "see", "dogs", "with", "saws"]
# Two kinds, each with trees of more than one rule, for one word and for more.
TANGLED = [
    ("A", "A", "B"), ("B", "B", "A"), ("A", "B", "A"), ("A", "x"), ("B", "A", "A"), ("B", "x"), ("B", "y"),
]


def catalan(many):
    """How many shapes a tree with so many words can have, by the sum over its cuts."""
    shapes = [0, 1]
    for words in range(2, many + 1):
        shapes.append(sum([shapes[cut] * shapes[words - cut] for cut in range(1, words)]))
    return shapes[many]


def leaf(word):
    return ("A", word)


def join(left, right):
    return ("A", left, right)


def some_words(many):
    letters = "abcdefghij"
    return [letters[at // 100 % 10] + letters[at // 10 % 10] + letters[at % 10] for at in range(many)]


def leaning_left(words):
    tree = leaf(words[0])
    for word in words[1:]:
        tree = join(tree, leaf(word))
    return tree


def leaning_right(words):
    tree = leaf(words[-1])
    for word in reversed(words[:-1]):
        tree = join(leaf(word), tree)
    return tree


def even(words):
    if len(words) == 1:
        return leaf(words[0])
    middle = len(words) // 2
    return join(even(words[:middle]), even(words[middle:]))


def every_tree(many, kinds, words):
    """All trees with so many words, of all kinds and words given."""
    if many == 1:
        return [(kind, word) for kind in kinds for word in words]
    found = []
    for cut in range(1, many):
        for left in every_tree(cut, kinds, words):
            for right in every_tree(many - cut, kinds, words):
                found.extend([(kind, left, right) for kind in kinds])
    return found


def plain_words(tree):
    return [tree[1]] if len(tree) == 2 else plain_words(tree[1]) + plain_words(tree[2])


def plain_rule(tree):
    return tree if len(tree) == 2 else (tree[0], tree[1][0], tree[2][0])


def plain_cut(tree):
    return 0 if len(tree) == 2 else len(plain_words(tree[1]))


def made_by_rules(rules, tree):
    if plain_rule(tree) not in rules:
        return False
    return len(tree) == 2 or (made_by_rules(rules, tree[1]) and made_by_rules(rules, tree[2]))


def plain_is_tree(rules, words, tree):
    return plain_words(tree) == words and made_by_rules(rules, tree)


def stands_ahead(rules, one, other):
    """Point 8 word for word: less than nought where the one stands ahead, nought where both are the same."""
    if one == other:
        return 0
    first = rules.index(plain_rule(one)) - rules.index(plain_rule(other))
    second = plain_cut(one) - plain_cut(other)
    return first or second or stands_ahead(rules, one[1], other[1]) or stands_ahead(rules, one[2], other[2])


def in_order(rules, trees):
    return sorted(trees, key=functools.cmp_to_key(lambda one, other: stands_ahead(rules, one, other)))


def trees_by_rules(rules, words, kind):
    """All trees of the kind, in no order that matters: the rules are walked from the last one back."""
    found = []
    for rule in reversed(rules):
        if rule[0] != kind:
            continue
        if len(rule) == 2 and words == [rule[1]]:
            found.append(rule)
        if len(rule) == 3:
            for cut in reversed(range(1, len(words))):
                for left in trees_by_rules(rules, words[:cut], rule[1]):
                    for right in trees_by_rules(rules, words[cut:], rule[2]):
                        found.append((kind, left, right))
    return found
