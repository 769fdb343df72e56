import unittest

from clausewood.shapes import cut_of, height, is_leaf, made_alike, parting, parts_of, rule_of, words_of
from helpers import (
    even, every_tree, join, leaning_left, leaning_right, plain_cut, plain_rule, plain_words, some_words,
)
from helpers import leaf as a

DOG = ("N", "dog")
RUNS = ("V", "runs")
SENTENCE = ("S", DOG, RUNS)


def plain_height(tree):
    return 1 if len(tree) == 2 else 1 + max(plain_height(tree[1]), plain_height(tree[2]))


def parts_by_path(tree, path=()):
    found = {path: tree}
    if len(tree) == 3:
        found.update(parts_by_path(tree[1], path + (0,)))
        found.update(parts_by_path(tree[2], path + (1,)))
    return found


def plain_top(tree):
    return (plain_rule(tree), plain_cut(tree))


def plain_parting(one, other):
    """Point 10 word for word: of all paths to unlike parts the first. Tuples compare just as paths do."""
    ones = parts_by_path(one)
    others = parts_by_path(other)
    unlike = [path for path in ones if path in others and plain_top(ones[path]) != plain_top(others[path])]
    return list(min(unlike)) if unlike else None


class WordsAndHeight(unittest.TestCase):
    def test_a_leaf_alone(self):
        self.assertEqual(words_of(DOG), ["dog"])
        self.assertEqual(height(DOG), 1)

    def test_a_small_tree(self):
        self.assertEqual(words_of(SENTENCE), ["dog", "runs"])
        self.assertEqual(height(SENTENCE), 2)

    def test_words_from_the_left_to_the_right_and_as_often_as_they_stand(self):
        tree = join(join(a("one"), a("two")), join(a("one"), join(a("Two"), a("one"))))
        self.assertEqual(words_of(tree), ["one", "two", "one", "Two", "one"])

    def test_height_follows_the_higher_part_on_either_side(self):
        pair = join(a("x"), a("y"))
        self.assertEqual(height(join(pair, a("z"))), 3)
        self.assertEqual(height(join(a("z"), pair)), 3)
        self.assertEqual(height(join(pair, pair)), 3)
        self.assertEqual(height(join(join(pair, a("z")), pair)), 4)

    def test_a_hundred_words_and_somewhat_more(self):
        for many in (100, 130):
            words = some_words(many)
            for lean in (leaning_left, leaning_right):
                with self.subTest(many=many, lean=lean.__name__):
                    self.assertEqual(words_of(lean(words)), words)
                    self.assertEqual(height(lean(words)), many)

    def test_a_hundred_words_evenly(self):
        words = some_words(100)
        self.assertEqual(words_of(even(words)), words)
        self.assertEqual(height(even(words)), 8)

    def test_kinds_written_like_words(self):
        tree = ("dog", ("dog", "dog"), ("runs", "dog"))
        self.assertEqual(words_of(tree), ["dog", "dog"])
        self.assertEqual(height(tree), 2)

    def test_all_small_trees(self):
        for many in range(1, 5):
            for tree in every_tree(many, ("A", "B"), ("x", "y")):
                self.assertEqual(words_of(tree), plain_words(tree))
                self.assertEqual(height(tree), plain_height(tree))

    def test_each_answer_is_a_list_of_its_own(self):
        first = words_of(SENTENCE)
        first.append("more")
        self.assertEqual(words_of(SENTENCE), ["dog", "runs"])
        self.assertIs(type(first), list)


class Tops(unittest.TestCase):
    def test_the_rule_that_makes_a_tree(self):
        self.assertEqual(rule_of(DOG), ("N", "dog"))
        self.assertEqual(rule_of(SENTENCE), ("S", "N", "V"))

    def test_cut(self):
        self.assertEqual(cut_of(DOG), 0)
        self.assertEqual(cut_of(SENTENCE), 1)
        self.assertEqual(cut_of(leaning_left(some_words(100))), 99)
        self.assertEqual(cut_of(leaning_right(some_words(100))), 1)

    def test_parts_are_the_tree_and_all_parts_of_its_left_and_right_part(self):
        self.assertEqual(parts_of(DOG), [DOG])
        self.assertEqual(parts_of(SENTENCE), [SENTENCE, DOG, RUNS])
        tree = join(join(a("x"), a("y")), a("x"))
        self.assertEqual(parts_of(tree), [tree, tree[1], a("x"), a("y"), a("x")])
        self.assertEqual(len(parts_of(leaning_left(some_words(100)))), 199)

    def test_leaves(self):
        self.assertIs(is_leaf(DOG), True)
        self.assertIs(is_leaf(SENTENCE), False)

    def test_made_alike_asks_for_rule_and_cut(self):
        pair = join(a("x"), a("y"))
        self.assertIs(made_alike(join(pair, a("z")), join(pair, pair)), True)
        self.assertIs(made_alike(join(pair, a("z")), join(a("x"), pair)), False)
        self.assertIs(made_alike(SENTENCE, ("S", DOG, ("N", "runs"))), False)


class Partings(unittest.TestCase):
    def test_the_same_tree_twice(self):
        for build in (leaning_left, leaning_right, even):
            for many in (1, 2, 3, 100):
                self.assertIsNone(parting(build(some_words(many)), build(some_words(many))))
        self.assertIsNone(parting(SENTENCE, SENTENCE))

    def test_two_leaves_of_one_kind(self):
        self.assertEqual(parting(("N", "dog"), ("N", "cat")), [])

    def test_a_leaf_against_a_tree_that_is_none(self):
        self.assertEqual(parting(("S", "dog"), SENTENCE), [])
        self.assertEqual(parting(SENTENCE, ("S", "dog")), [])

    def test_another_rule_at_the_top(self):
        self.assertEqual(parting(SENTENCE, ("S", ("V", "dog"), RUNS)), [])
        self.assertEqual(parting(SENTENCE, ("S", DOG, ("N", "runs"))), [])

    def test_only_another_cut(self):
        words = ["x", "y", "z"]
        self.assertEqual(parting(leaning_left(words), leaning_right(words)), [])

    def test_only_another_word(self):
        self.assertEqual(parting(SENTENCE, ("S", ("N", "cat"), RUNS)), [0])
        self.assertEqual(parting(SENTENCE, ("S", DOG, ("V", "walks"))), [1])

    def test_left_ahead_of_right_where_both_differ(self):
        self.assertEqual(parting(SENTENCE, ("S", ("N", "cat"), ("V", "walks"))), [0])

    def test_a_longer_path_to_the_left_stands_ahead_of_a_shorter_one_to_the_right(self):
        one = join(join(a("x"), join(a("y"), a("z"))), a("u"))
        other = join(join(a("x"), join(a("y"), a("w"))), a("v"))
        self.assertEqual(parting(one, other), [0, 1, 1])

    def test_the_shorter_path_stands_ahead_of_what_is_below_it(self):
        words = ["u", "x", "y", "z"]
        one = join(a("u"), leaning_left(words[1:]))
        other = join(a("u"), leaning_right(words[1:]))
        self.assertEqual(parting(one, other), [1])

    def test_first_in_the_left_part_and_first_in_the_right_part(self):
        words = ["x", "y", "z"]
        left = leaning_left(words)
        right = leaning_right(words)
        self.assertEqual(parting(join(left, a("u")), join(right, a("u"))), [0])
        self.assertEqual(parting(join(a("u"), left), join(a("u"), right)), [1])
        self.assertEqual(parting(join(left, left), join(right, right)), [0])
        self.assertEqual(parting(join(a("u"), join(left, a("v"))), join(a("u"), join(right, a("v")))), [1, 0])

    def test_the_right_parts_may_have_more_words_in_one(self):
        self.assertEqual(parting(join(a("x"), a("y")), join(a("x"), join(a("y"), a("z")))), [1])

    def test_a_kind_below_differs(self):
        one = ("S", DOG, ("V", ("N", "x"), ("N", "y")))
        other = ("S", DOG, ("V", ("N", "x"), ("A", "y")))
        self.assertEqual(parting(one, other), [1])

    def test_the_deepest_leaf_of_a_hundred_words_and_somewhat_more(self):
        for many in (100, 130):
            words = some_words(many)
            self.assertEqual(parting(leaning_right(words), leaning_right(words[:-1] + ["other"])), [1] * (many - 1))
            self.assertEqual(parting(leaning_left(words), leaning_left(["other"] + words[1:])), [0] * (many - 1))

    def test_all_pairs_of_small_trees_of_one_kind(self):
        trees = []
        for many in (1, 2, 3):
            trees.extend(every_tree(many, ("A", "B"), ("x",)))
            trees.extend(every_tree(many, ("A",), ("x", "y")))
        trees.extend(every_tree(4, ("A",), ("x", "y")))
        trees.extend(every_tree(5, ("A",), ("x",)))
        trees = [tree for tree in dict.fromkeys(trees) if tree[0] == "A"]
        for one in trees:
            for other in trees:
                self.assertEqual(parting(one, other), plain_parting(one, other), (one, other))

    def test_each_answer_is_a_list_of_its_own(self):
        other = ("S", DOG, ("V", "walks"))
        first = parting(SENTENCE, other)
        self.assertIs(type(first), list)
        first.append(0)
        self.assertEqual(parting(SENTENCE, other), [1])


if __name__ == "__main__":
    unittest.main()
