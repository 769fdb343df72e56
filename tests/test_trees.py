import itertools
import unittest

from clausewood.errors import NoTree
from clausewood.shapes import parting
from clausewood.tables import how_many
from clausewood.trees import is_tree, place_of, tree_at, two_ways
from helpers import (
    ANY_SHAPE, SEEING, SEEN, TANGLED, catalan, even, every_tree, in_order, join, leaf, leaning_left, leaning_right,
    plain_is_tree, stands_ahead, trees_by_rules,
)

WITH_SAWS = ("P", ("With", "with"), ("N", "saws"))
SEE_DOGS = ("V", ("See", "see"), ("N", "dogs"))
SEEN_WITH_SAWS = ("S", ("N", "I"), ("V", SEE_DOGS, WITH_SAWS))
DOGS_WITH_SAWS = ("S", ("N", "I"), ("V", ("See", "see"), ("N", ("N", "dogs"), WITH_SAWS)))
HUGE = 10 ** 6000


def nested(many, build):
    thing = leaf("x")
    for step in range(many):
        thing = build(thing)
    return thing


class Places(unittest.TestCase):
    def check_all(self, rules, words, kind, trees):
        ordered = in_order(rules, trees)
        self.assertEqual(how_many(rules, words, kind), len(ordered))
        self.assertEqual([tree_at(rules, words, kind, place) for place in range(len(ordered))], ordered)
        self.assertEqual([place_of(rules, words, tree) for tree in ordered], list(range(len(ordered))))
        for place in (len(ordered), len(ordered) + 1, -1, -len(ordered) - 1, HUGE, -HUGE):
            self.assertRaises(NoTree, tree_at, rules, words, kind, place)

    def test_the_rule_that_stands_ahead(self):
        self.assertEqual(tree_at(SEEING, SEEN, "S", 0), SEEN_WITH_SAWS)
        self.assertEqual(tree_at(SEEING, SEEN, "S", 1), DOGS_WITH_SAWS)
        other = SEEING[::-1]
        self.assertEqual(tree_at(other, SEEN, "S", 0), DOGS_WITH_SAWS)
        self.assertEqual(tree_at(other, SEEN, "S", 1), SEEN_WITH_SAWS)

    def test_the_lesser_cut(self):
        words = ["x", "x", "x"]
        self.assertEqual(tree_at(ANY_SHAPE, words, "A", 0), leaning_right(words))
        self.assertEqual(tree_at(ANY_SHAPE, words, "A", 1), leaning_left(words))

    def test_the_left_part_ahead_of_the_right_part(self):
        three = ["x"] * 3
        rules = [("S", "A", "B"), ("A", "A", "A"), ("A", "x"), ("B", "B", "B"), ("B", "y")]
        words = three + ["y"] * 3
        lefts = [leaning_right(three), leaning_left(three)]
        rights = [("B", ("B", "y"), ("B", ("B", "y"), ("B", "y"))), ("B", ("B", ("B", "y"), ("B", "y")), ("B", "y"))]
        trees = [tree_at(rules, words, "S", place) for place in range(4)]
        self.assertEqual(trees, [("S", left, right) for left in lefts for right in rights])

    def test_the_rule_counts_ahead_of_the_cut(self):
        rules = [("S", "B", "A"), ("S", "A", "B"), ("A", "A", "A"), ("A", "x"), ("B", "A", "A")]
        words = ["x"] * 3
        pair = ("B", leaf("x"), leaf("x"))
        self.assertEqual(tree_at(rules, words, "S", 0), ("S", pair, leaf("x")))
        self.assertEqual(tree_at(rules, words, "S", 1), ("S", leaf("x"), pair))
        self.assertRaises(NoTree, tree_at, rules, words, "S", 2)

    def test_rules_of_other_kinds_and_of_words_count_for_nothing(self):
        rules = [("B", "A", "A"), ("A", "y"), ("B", "x"), ("C", "B", "B"), ("A", "A", "A"), ("C", "x"), ("A", "x")]
        words = ["x"] * 4
        self.check_all(rules, words, "A", trees_by_rules(rules, words, "A"))

    def test_a_leaf_has_the_place_nought(self):
        rules = [("B", "x"), ("A", "A", "A"), ("A", "y"), ("A", "x")]
        self.assertEqual(tree_at(rules, ["x"], "A", 0), ("A", "x"))
        self.assertEqual(place_of(rules, ["x"], ("A", "x")), 0)
        for place in (1, -1, HUGE, -HUGE):
            self.assertRaises(NoTree, tree_at, rules, ["x"], "A", place)

    def test_no_tree_at_all(self):
        for rules, words, kind in (
            (SEEING, [], "S"), (SEEING, SEEN[:2], "S"), (SEEING, SEEN, "Nothing"), (SEEING, SEEN[:2] + ["cats"], "S"),
            ([], SEEN, "S"), ([], [], "S"), (SEEING, ["dogs"], "S"), (SEEING, ["cats"], "N"),
        ):
            for place in (0, 1, -1, HUGE, -HUGE):
                with self.subTest(words=words, kind=kind, size=place.bit_length()), self.assertRaises(NoTree):
                    tree_at(rules, words, kind, place)

    def test_all_orders_of_the_rules(self):
        words = ["x", "x", "y", "x"]
        found = {kind: trees_by_rules(TANGLED, words, kind) for kind in "AB"}
        for order in itertools.permutations(TANGLED[:5]):
            rules = list(order) + TANGLED[5:]
            for kind in "AB":
                self.check_all(rules, words, kind, found[kind])

    def test_all_grammars_of_two_kinds(self):
        joins = list(itertools.product("AB", repeat=3))
        words = ["x"] * 3
        trees = every_tree(3, ("A", "B"), ("x",))
        for chosen in itertools.product((False, True), repeat=len(joins)):
            some = list(itertools.compress(joins, chosen)) + [("A", "x"), ("B", "x")]
            for rules in (some, some[::-1]):
                for kind in "AB":
                    own = [tree for tree in trees if tree[0] == kind and plain_is_tree(rules, words, tree)]
                    self.check_all(rules, words, kind, own)

    def test_longer_sentences(self):
        for words in (["x"] * 5, ["x", "y", "y", "x", "x"], ["y", "x", "x", "y", "x", "x"]):
            for rules in (TANGLED, TANGLED[::-1], ANY_SHAPE, TANGLED[2:] + TANGLED[:2]):
                for kind in "AB":
                    self.check_all(rules, words, kind, trees_by_rules(rules, words, kind))

    def test_words_that_differ(self):
        rules = SEEING + [("N", "see"), ("P", "With", "P"), ("V", "See", "V"), ("S", "S", "P")]
        words = SEEN + SEEN[3:]
        for order in (rules, rules[::-1]):
            for kind in ("S", "V", "N", "P"):
                for start in range(len(words)):
                    self.check_all(order, words[start:], kind, trees_by_rules(order, words[start:], kind))


class ManyTrees(unittest.TestCase):
    def check_places(self, rules, words, kind, places):
        for place in places:
            tree = tree_at(rules, words, kind, place)
            self.assertEqual(tree[0], kind)
            self.assertTrue(plain_is_tree(rules, words, tree))
            self.assertIs(is_tree(rules, words, tree), True)
            self.assertEqual(place_of(rules, words, tree), place)

    def test_the_first_a_middle_and_the_last_of_a_hundred_words_and_somewhat_more(self):
        for many in (100, 120):
            words = ["x"] * many
            last = catalan(many) - 1
            self.assertEqual(tree_at(ANY_SHAPE, words, "A", 0), leaning_right(words))
            self.assertEqual(tree_at(ANY_SHAPE, words, "A", last), leaning_left(words))
            self.assertEqual(place_of(ANY_SHAPE, words, leaning_left(words)), last)
            self.check_places(ANY_SHAPE, words, "A", (0, 1, last // 2, last * 2 // 3, last - 1, last))
            for place in (last + 1, -1, -last, HUGE, -HUGE):
                self.assertRaises(NoTree, tree_at, ANY_SHAPE, words, "A", place)

    def test_neighbours_stand_in_order(self):
        words = ["x"] * 100
        for middle in (catalan(100) // 2, catalan(100) // 7, 10 ** 30):
            one = tree_at(ANY_SHAPE, words, "A", middle)
            other = tree_at(ANY_SHAPE, words, "A", middle + 1)
            self.assertLess(stands_ahead(ANY_SHAPE, one, other), 0)

    def test_more_kinds_and_rules(self):
        words = (["x"] * 3 + ["y"]) * 25
        for rules in (TANGLED, TANGLED[::-1]):
            for kind in "AB":
                last = how_many(rules, words, kind) - 1
                self.assertGreater(last, 10 ** 40)
                self.check_places(rules, words, kind, (0, last // 3, last))
                self.assertRaises(NoTree, tree_at, rules, words, kind, last + 1)

    def test_a_hundred_words_evenly(self):
        words = ["x"] * 100
        tree = even(words)
        self.assertEqual(tree_at(ANY_SHAPE, words, "A", place_of(ANY_SHAPE, words, tree)), tree)


class IsTree(unittest.TestCase):
    # What has the same words and is no tree of the grammar, or has not the form of a tree.
    WRONG = (
        "", "S", "dog", "NV", "Ndog", (), ("S",), ("N",), ("N", "dog", "N", "dog"),
        ("S", ("N", "dog"), ("V", "runs"), ("V", "runs")), ("S", ("N", "dog")), ("S", ("N", "dog"), ("V", "runs"), ""),
        ("N", ("N", "dog")), ("N", ("dog",)), ("N", ()), ("S", "N", "V"), ("S", "Ndog", "Vruns"),
        ("S", ("N", "dog"), "runs"), ("S", "dog", ("V", "runs")), ("S", ("N", "dog"), "V"), ("S", "N", ("V", "runs")),
        (("S",), ("N", "dog"), ("V", "runs")), ((), ("N", "dog"), ("V", "runs")), (("N", "dog"), ("V", "runs")),
        ("S", (("N",), "dog"), ("V", "runs")), ("S", ("N", "dog"), (("V",), "runs")), (("S", "N"), "V"),
        ("S", (), ("V", "runs")), ("S", ("N", "dog"), ()), ("S", (), ()), ((), ()), ((), (), ()),
        ("S", ("N",), ("V", "runs")), ("S", ("N", "dog"), ("V",)), ("S", ("N", ("dog",)), ("V", "runs")),
        ("S", ("N", "cat"), ("V", "runs")), ("S", ("N", "runs"), ("V", "dog")), ("S", ("V", "runs"), ("N", "dog")),
        ("S", ("N", "dog"), ("V", "walks")), ("S", ("V", "dog"), ("V", "runs")), ("T", ("N", "dog"), ("V", "runs")),
        ("N", "dog"), ("V", "runs"), ("S", "dog"), ("S", "runs"), ("s", ("N", "dog"), ("V", "runs")),
        ("S", ("N", "dog"), ("V", ("V", "runs"), ("V", "runs"))), ("S", ("N", ("N", "dog"), ("N", "dog")), ("V", "runs")),
        ("S", ("N", "dog"), ("S", ("N", "dog"), ("V", "runs"))), ("T", "dog", "runs"), ("", ""), ("", "", ""),
    )
    RULES = [("S", "N", "V"), ("N", "dog"), ("V", "runs"), ("N", "cat"), ("V", "walks"), ("T", "V", "N")]

    def test_a_tree(self):
        self.assertIs(is_tree(self.RULES, ["dog", "runs"], ("S", ("N", "dog"), ("V", "runs"))), True)
        self.assertIs(is_tree(self.RULES, ["dog"], ("N", "dog")), True)

    def test_of_whatever_kind(self):
        self.assertIs(is_tree(self.RULES, ["runs", "dog"], ("T", ("V", "runs"), ("N", "dog"))), True)
        for tree in (SEEN_WITH_SAWS, DOGS_WITH_SAWS):
            self.assertIs(is_tree(SEEING, SEEN, tree), True)
            self.assertIs(is_tree(SEEING, SEEN[1:], tree[2]), True)

    def test_things_that_are_none(self):
        for words in (["dog", "runs"], [], ["cat", "dog", "runs"], ["dog", "runs", "dog"]):
            for thing in self.WRONG:
                with self.subTest(words=words, thing=thing):
                    self.assertIs(is_tree(self.RULES, words, thing), False)
                    self.assertRaises(NoTree, place_of, self.RULES, words, thing)

    def test_a_tree_of_another_sentence(self):
        tree = ("S", ("N", "dog"), ("V", "runs"))
        for words in (
            [], ["dog"], ["runs"], ["runs", "dog"], ["dog", "walks"], ["cat", "runs"], ["dog", "runs", "dog"],
            ["dog", "dog", "runs"], ["Dog", "runs"], ["dogruns"], ["dog", "runs", "runs"],
        ):
            self.assertIs(is_tree(self.RULES, words, tree), False, words)
            self.assertRaises(NoTree, place_of, self.RULES, words, tree)

    def test_each_rule_of_the_tree_must_be_there(self):
        for tree in (SEEN_WITH_SAWS, DOGS_WITH_SAWS):
            for at, rule in enumerate(SEEING):
                rules = SEEING[:at] + SEEING[at + 1:]
                self.assertEqual(is_tree(rules, SEEN, tree), plain_is_tree(rules, SEEN, tree), rule)
            self.assertIs(is_tree([], SEEN, tree), False)

    def test_a_rule_is_no_leaf_where_kinds_are_written_like_words(self):
        rules = [("a", "a"), ("a", "a", "a")]
        self.assertIs(is_tree(rules, ["a", "a"], ("a", "a", "a")), False)
        self.assertIs(is_tree(rules, ["a"], ("a", "a", "a")), False)
        self.assertIs(is_tree(rules, ["a"], ("a", "a")), True)
        self.assertIs(is_tree(rules, ["a", "a"], ("a", ("a", "a"), ("a", "a"))), True)
        self.assertIs(is_tree(rules, ["a", "a"], ("a", "a", ("a", "a"))), False)
        self.assertIs(is_tree(rules, ["a", "a"], ("a", ("a", "a"), "aa")), False)

    def test_all_small_trees(self):
        trees = [tree for many in range(1, 4) for tree in every_tree(many, ("A", "B"), ("x", "y"))]
        for words in ([], ["x"], ["y"], ["x", "x"], ["x", "y"], ["y", "x", "x"], ["x", "y", "x"]):
            for tree in trees:
                self.assertEqual(is_tree(TANGLED, words, tree), plain_is_tree(TANGLED, words, tree), (words, tree))

    def test_all_small_things(self):
        texts = ["A", "x", "Ax"]
        things = texts + [()]
        for size in (1, 2, 3):
            things.extend(itertools.product(texts + [(), ("A",), ("A", "x"), ("x", "A")], repeat=size))
        right = {
            (("x",), ("A", "x")),
            (("x", "x"), ("A", ("A", "x"), ("A", "x"))),
        }
        for words in ([], ["x"], ["x", "x"], ["A"]):
            for thing in things:
                self.assertEqual(is_tree(ANY_SHAPE, words, thing), (tuple(words), thing) in right, (words, thing))

    def test_a_hundred_words_and_somewhat_more(self):
        for many in (100, 120):
            words = ["x"] * many
            for build in (leaning_left, leaning_right, even):
                self.assertIs(is_tree(ANY_SHAPE, words, build(words)), True)
                self.assertIs(is_tree(ANY_SHAPE, words[1:], build(words)), False)
                self.assertIs(is_tree(ANY_SHAPE, words + ["x"], build(words)), False)
                self.assertIs(is_tree(ANY_SHAPE, words[1:] + ["y"], build(words)), False)

    def test_things_that_are_nested_very_deep(self):
        # No thing is handed to an assertion that would write it out.
        builds = (
            lambda thing: (thing,), lambda thing: ("A", thing), lambda thing: (thing, "A"),
            lambda thing: join(thing, leaf("x")), lambda thing: join(leaf("x"), thing),
            lambda thing: (thing, leaf("x"), leaf("x")), lambda thing: ("A", ("A", thing), leaf("x")),
            lambda thing: ("A", (thing, "x"), leaf("x")), lambda thing: ("A", leaf("x"), (thing,)),
        )
        for number, build in enumerate(builds):
            thing = nested(50000, build)
            for words in ([], ["x"], ["x"] * 100):
                with self.subTest(number=number, many=len(words)):
                    self.assertIs(is_tree(ANY_SHAPE, words, thing), False)
                    with self.assertRaises(NoTree):
                        place_of(ANY_SHAPE, words, thing)

    def test_things_whose_parts_are_the_same_over_and_over(self):
        thing = nested(300, lambda part: join(part, part))
        self.assertIs(is_tree(ANY_SHAPE, ["x"] * 100, thing), False)
        self.assertRaises(NoTree, place_of, ANY_SHAPE, ["x"] * 100, thing)
        words = ["x"] * 64
        self.assertIs(is_tree(ANY_SHAPE, words, nested(6, lambda part: join(part, part))), True)


class TwoWays(unittest.TestCase):
    def test_no_tree(self):
        self.assertIsNone(two_ways(SEEING, [], "S"))
        self.assertIsNone(two_ways(SEEING, SEEN[:2], "S"))
        self.assertIsNone(two_ways(SEEING, SEEN, "Nothing"))
        self.assertIsNone(two_ways(SEEING, SEEN[:2] + ["cats"], "S"))
        self.assertIsNone(two_ways([], [], "S"))

    def test_one_tree(self):
        self.assertIsNone(two_ways(SEEING, SEEN[:3], "S"))
        self.assertIsNone(two_ways(SEEING, ["dogs"], "N"))

    def test_two_trees(self):
        self.assertEqual(two_ways(SEEING, SEEN, "S"), (SEEN_WITH_SAWS, DOGS_WITH_SAWS, [1]))
        self.assertEqual(two_ways(SEEING[::-1], SEEN, "S"), (DOGS_WITH_SAWS, SEEN_WITH_SAWS, [1]))
        self.assertEqual(two_ways(SEEING, SEEN[1:], "V"), (SEEN_WITH_SAWS[2], DOGS_WITH_SAWS[2], []))

    def test_more_than_two(self):
        words = ["x"] * 4
        one = join(leaf("x"), leaning_right(words[1:]))
        other = join(leaf("x"), leaning_left(words[1:]))
        self.assertEqual(two_ways(ANY_SHAPE, words, "A"), (one, other, [1]))

    def test_a_parting_in_the_left_part(self):
        rules = [("S", "A", "B"), ("A", "A", "A"), ("A", "x"), ("B", "y")]
        one = ("S", leaning_right(["x"] * 3), ("B", "y"))
        other = ("S", leaning_left(["x"] * 3), ("B", "y"))
        self.assertEqual(two_ways(rules, ["x", "x", "x", "y"], "S"), (one, other, [0]))

    def test_it_is_what_the_others_tell(self):
        for rules in itertools.permutations(TANGLED[:5]):
            grammar = list(rules) + TANGLED[5:]
            for words in (["x"] * 3, ["x", "y", "x", "x"]):
                trees = in_order(grammar, trees_by_rules(grammar, words, "A"))
                told = None if len(trees) < 2 else (trees[0], trees[1], parting(trees[0], trees[1]))
                self.assertEqual(two_ways(grammar, words, "A"), told)

    def test_a_hundred_words(self):
        words = ["x"] * 100
        one, other, path = two_ways(ANY_SHAPE, words, "A")
        self.assertEqual((place_of(ANY_SHAPE, words, one), place_of(ANY_SHAPE, words, other)), (0, 1))
        self.assertEqual(path, [1] * 97)
        self.assertIs(type(path), list)


if __name__ == "__main__":
    unittest.main()
