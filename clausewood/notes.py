"""Lines: a tree written as a text, and the text read again."""

from clausewood.errors import NoLine
from clausewood.rules import is_name
from clausewood.shapes import is_leaf


def shown(tree):
    pieces = []
    waiting = [tree]
    while waiting:
        part = waiting.pop()
        if isinstance(part, str):
            pieces.append(part)
        elif is_leaf(part):
            pieces.append("(" + part[0] + " " + part[1] + ")")
        else:
            # Turned round, since what is put in last is taken first.
            waiting.extend([")", part[2], " ", part[1], "(" + part[0] + " "])
    return "".join(pieces)


def is_closed_well(tree):
    if len(tree) == 2:
        return isinstance(tree[1], str)
    return len(tree) == 3 and isinstance(tree[1], tuple) and isinstance(tree[2], tuple)


def closed(opened, closings):
    # Closes so many trees, each becomes a part of the one around it; False where one of them is none.
    for number in range(closings):
        tree = tuple(opened.pop())
        if not is_closed_well(tree):
            return False
        opened[-1].append(tree)
    return True


def taken(opened, piece):
    # Between blanks stands a kind behind its `(` or a word ahead of one `)` or more; False for all else.
    if piece.startswith("("):
        opened.append([piece[1:]])
        return is_name(piece[1:])
    word = piece.rstrip(")")
    closings = len(piece) - len(word)
    if not is_name(word) or not 0 < closings < len(opened):
        return False
    opened[-1].append(word)
    return closed(opened, closings)


def read(line):
    # The list at the bottom is never closed: it takes the whole tree like a part.
    opened = [[]]
    for piece in line.split(" "):
        if not taken(opened, piece):
            raise NoLine(f"this is no line of a tree: {line!r}")
    if len(opened) != 1 or len(opened[0]) != 1:
        raise NoLine(f"this is no line of a tree: {line!r}")
    return opened[0][0]
