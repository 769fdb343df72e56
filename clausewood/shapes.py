"""The shapes of trees: rule, parts, words, cut and height of a tree, and the parting of two.

The walks go by loops: a tree may lean all to one side, and a loop asks for no depth of calls.
"""


def is_leaf(tree):
    return len(tree) == 2


def rule_of(tree):
    if is_leaf(tree):
        return tree
    return (tree[0], tree[1][0], tree[2][0])


def parts_of(tree):
    parts = []
    waiting = [tree]
    while waiting:
        part = waiting.pop()
        parts.append(part)
        if not is_leaf(part):
            # What is put in last is taken first, so the left part goes in behind the right one.
            waiting.append(part[2])
            waiting.append(part[1])
    return parts


def words_of(tree):
    return [part[1] for part in parts_of(tree) if is_leaf(part)]


def cut_of(tree):
    if is_leaf(tree):
        return 0
    return len(words_of(tree[1]))


def parts_below(row):
    below = []
    for tree in row:
        if not is_leaf(tree):
            below.append(tree[1])
            below.append(tree[2])
    return below


def height(tree):
    rows = 0
    row = [tree]
    while row:
        rows += 1
        row = parts_below(row)
    return rows


def made_alike(one, other):
    return rule_of(one) == rule_of(other) and cut_of(one) == cut_of(other)


def parting(one, other):
    if one == other:
        return None
    path = []
    here = one
    there = other
    # The two are never the same here: leaves made alike would be, so both have parts to step to.
    while made_alike(here, there):
        step = 0 if here[1] != there[1] else 1
        path.append(step)
        here = here[step + 1]
        there = there[step + 1]
    return path
