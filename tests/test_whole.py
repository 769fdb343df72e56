"""What the document promises over the whole program: refused grammars first, nothing changed, the same answer again."""

import ast
import copy
import inspect
import pathlib
import unittest

from clausewood import errors, notes, shapes, tables, trees
from clausewood.errors import NoRule, Twice, WoodError
from helpers import SEEING, SEEN

TREE = ("S", ("N", "I"), ("V", ("See", "see"), ("N", "dogs")))
HUGE = 10 ** 6000
# Each function that takes a grammar, with arguments behind the rules and the words that are right and that are not.
CALLS = (
    (tables.table_of, ()),
    (tables.how_many, ("S",)), (tables.how_many, ("Nothing",)),
    (trees.tree_at, ("S", 0)), (trees.tree_at, ("S", -1)), (trees.tree_at, ("Nothing", HUGE)),
    (trees.is_tree, (TREE,)), (trees.is_tree, ((),)), (trees.is_tree, ("S",)), (trees.is_tree, (("S", ()),)),
    (trees.place_of, (TREE,)), (trees.place_of, ((),)), (trees.place_of, ("S",)), (trees.place_of, (("S", ()),)),
    (trees.two_ways, ("S",)), (trees.two_ways, ("Nothing",)),
)
REFUSED = (
    (NoRule, [()]), (NoRule, [("S",)]), (NoRule, [("S", "N", "V", "P")]), (NoRule, [("S", "d1")]), (NoRule, [("", "x")]),
    (NoRule, [("N", "\u00e9")]), (NoRule, [("S", "N", "")]), (Twice, [SEEING[0]]), (Twice, [SEEING[-1]]),
    (NoRule, [SEEING[0], ()]), (NoRule, [("d1", "x"), SEEING[0]]), (NoRule, [("d1", "x"), ("d1", "x")]),
)
SENTENCES = (SEEN, SEEN[:3], SEEN[:1], [], ["cats"])
INTERFACE = {
    shapes: {"words_of": ["tree"], "height": ["tree"], "parting": ["one", "other"]},
    tables: {"table_of": ["rules", "words"], "how_many": ["rules", "words", "kind"]},
    trees: {
        "tree_at": ["rules", "words", "kind", "place"], "is_tree": ["rules", "words", "thing"],
        "place_of": ["rules", "words", "thing"], "two_ways": ["rules", "words", "kind"],
    },
    notes: {"shown": ["tree"], "read": ["line"]},
}


def answer(call, rules, words, more):
    """What the call answers, or the class of its refusal."""
    try:
        return call(rules, words, *more)
    except WoodError as error:
        return error.__class__


class RefusedGrammars(unittest.TestCase):
    def test_ahead_of_anything_else(self):
        for call, more in CALLS:
            for error, wrong in REFUSED:
                for rules in (SEEING + wrong, wrong + SEEING, wrong + wrong):
                    for words in SENTENCES:
                        with self.subTest(call=call.__name__, wrong=wrong), self.assertRaises(error):
                            call(rules, words, *more)

    def test_a_right_grammar_is_not_refused(self):
        for call, more in CALLS:
            for words in SENTENCES:
                self.assertNotIn(answer(call, SEEING, words, more), (NoRule, Twice))

    def test_nothing_is_refused_for_being_somewhat_too_long(self):
        rules = SEEING + [("N", one + other) for one in "abcdefghij" for other in "klmnopqrst"]
        self.assertEqual(tables.how_many(rules, SEEN, "S"), 2)
        self.assertEqual(trees.tree_at(rules, SEEN[:3], "S", 0), TREE)
        self.assertEqual(tables.how_many(rules, SEEN * 22, "S"), 0)


class NothingChanges(unittest.TestCase):
    def test_what_is_handed_in_stays_the_same(self):
        for call, more in CALLS:
            for rules in [SEEING, []] + [SEEING + wrong for error, wrong in REFUSED]:
                for words in SENTENCES:
                    handed = (list(rules), list(words), copy.deepcopy(more))
                    answer(call, *handed)
                    self.assertEqual(handed, (rules, words, more), call.__name__)

    def test_the_same_answer_again(self):
        for call, more in CALLS:
            for words in SENTENCES:
                first = answer(call, SEEING, words, more)
                answer(call, SEEING[::-1], words[::-1], more)
                self.assertEqual(answer(call, list(SEEING), list(words), more), first)

    def test_an_answer_that_is_changed_changes_no_other(self):
        trees.two_ways(SEEING, SEEN, "S")[2].append(7)
        tables.table_of(SEEING, SEEN).append(7)
        self.assertEqual(trees.two_ways(SEEING, SEEN, "S")[2], [1])
        self.assertNotIn(7, tables.table_of(SEEING, SEEN))

    def test_lists_changed_behind_a_call_give_new_answers(self):
        rules = list(SEEING)
        words = list(SEEN)
        self.assertEqual(tables.how_many(rules, words, "S"), 2)
        rules.pop(1)
        self.assertEqual(tables.how_many(rules, words, "S"), 1)
        words.pop()
        self.assertEqual(tables.how_many(rules, words, "S"), 0)

    def test_no_file_imports_anything_from_outside(self):
        for path in pathlib.Path(errors.__file__).parent.glob("*.py"):
            for node in ast.walk(ast.parse(path.read_text("utf-8"))):
                self.assertNotIsInstance(node, ast.Import, path.name)
                if isinstance(node, ast.ImportFrom):
                    self.assertTrue(node.module.startswith("clausewood."), path.name)


class Interface(unittest.TestCase):
    def test_names_and_arguments(self):
        for module, functions in INTERFACE.items():
            for name, names in functions.items():
                self.assertEqual(list(inspect.signature(getattr(module, name)).parameters), names, name)

    def test_kinds_of_answers(self):
        self.assertIs(type(tables.table_of(SEEING, SEEN)), list)
        self.assertEqual({type(row) for row in tables.table_of(SEEING, SEEN)}, {tuple})
        self.assertIs(type(tables.how_many(SEEING, SEEN, "S")), int)
        self.assertIs(type(trees.tree_at(SEEING, SEEN, "S", 1)), tuple)
        self.assertIs(trees.is_tree(SEEING, SEEN[:3], TREE), True)
        self.assertIs(trees.is_tree(SEEING, SEEN, TREE), False)
        self.assertIs(type(trees.place_of(SEEING, SEEN[:3], TREE)), int)
        self.assertIs(type(trees.two_ways(SEEING, SEEN, "S")), tuple)
        self.assertIs(type(notes.shown(TREE)), str)


if __name__ == "__main__":
    unittest.main()
