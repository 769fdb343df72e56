import itertools
import unittest

from clausewood.tables import how_many, table_of
from helpers import ANY_SHAPE, SEEING, SEEN, TANGLED, catalan, every_tree, plain_is_tree, trees_by_rules


def plain_table(rules, words):
    """All stretches and kinds, each with its trees counted one by one."""
    rows = []
    for start in range(len(words)):
        for stop in range(start + 1, len(words) + 1):
            for kind in {rule[0] for rule in rules}:
                many = len(trees_by_rules(rules, words[start:stop], kind))
                if many:
                    rows.append((start, stop, kind, many))
    return sorted(rows)


class Tables(unittest.TestCase):
    def test_a_small_sentence(self):
        rules = [("S", "N", "V"), ("N", "dog"), ("V", "runs")]
        self.assertEqual(
            table_of(rules, ["dog", "runs"]), [(0, 1, "N", 1), (0, 2, "S", 1), (1, 2, "V", 1)]
        )

    def test_two_trees_are_counted_as_two(self):
        self.assertEqual(table_of(SEEING, SEEN), [
            (0, 1, "N", 1), (0, 3, "S", 1), (0, 5, "S", 2),
            (1, 2, "See", 1), (1, 3, "V", 1), (1, 5, "V", 2),
            (2, 3, "N", 1), (2, 5, "N", 1),
            (3, 4, "With", 1), (3, 5, "P", 1),
            (4, 5, "N", 1),
        ])

    def test_rows_go_by_start_then_by_stop_as_numbers(self):
        rows = table_of(ANY_SHAPE, ["x"] * 12)
        self.assertEqual(
            [row[:2] for row in rows], [(start, stop) for start in range(12) for stop in range(start + 1, 13)]
        )
        self.assertEqual([row[3] for row in rows], [catalan(row[1] - row[0]) for row in rows])

    def test_kinds_of_one_stretch_go_in_the_order_of_texts(self):
        kinds = ["b", "B", "a", "ab", "Z", "A", "aB", "z", "AA"]
        for order in (kinds, kinds[::-1]):
            rules = [(kind, "x") for kind in order]
            self.assertEqual(
                table_of(rules, ["x"]),
                [(0, 1, kind, 1) for kind in ["A", "AA", "B", "Z", "a", "aB", "ab", "b", "z"]],
            )

    def test_the_order_of_the_rules_is_all_the_same_to_a_table(self):
        rows = table_of(TANGLED, ["x", "y", "x", "x"])
        for rules in itertools.permutations(TANGLED):
            self.assertEqual(table_of(list(rules), ["x", "y", "x", "x"]), rows)

    def test_kinds_without_a_tree_have_no_row(self):
        self.assertEqual(table_of([("N", "dog"), ("S", "N", "N"), ("T", "N", "S")], ["dog"]), [(0, 1, "N", 1)])

    def test_words_that_no_rule_has_have_no_row(self):
        self.assertEqual(table_of([("N", "dog"), ("N", "N", "N")], ["dog", "cat", "dog"]), [
            (0, 1, "N", 1), (2, 3, "N", 1),
        ])
        self.assertEqual(table_of([("N", "dog"), ("N", "N", "N")], ["cat"]), [])

    def test_a_word_is_no_kind_and_a_kind_no_word(self):
        rules = [("S", "dog", "dog"), ("N", "dog"), ("N", "S")]
        self.assertEqual(table_of(rules, ["dog", "dog"]), [(0, 1, "N", 1), (1, 2, "N", 1)])
        self.assertEqual(table_of([("N", "S"), ("S", "dog")], ["dog"]), [(0, 1, "S", 1)])
        self.assertEqual(table_of([("a", "a"), ("a", "a", "a")], ["a", "a"]), [
            (0, 1, "a", 1), (0, 2, "a", 1), (1, 2, "a", 1),
        ])

    def test_a_letter_of_the_other_case_is_another_word_and_another_kind(self):
        self.assertEqual(table_of([("n", "dog"), ("N", "Dog"), ("S", "N", "n")], ["dog", "Dog"]), [
            (0, 1, "n", 1), (1, 2, "N", 1),
        ])

    def test_without_words_or_without_rules_there_is_no_row(self):
        self.assertEqual(table_of(SEEING, []), [])
        self.assertEqual(table_of([], SEEN), [])
        self.assertEqual(table_of([], []), [])

    def test_the_order_of_left_and_right_matters(self):
        rules = [("S", "A", "B"), ("A", "x"), ("B", "y")]
        self.assertEqual(how_many(rules, ["x", "y"], "S"), 1)
        self.assertEqual(how_many(rules, ["y", "x"], "S"), 0)

    def test_parts_lie_straight_behind_one_another(self):
        rules = [("S", "A", "B"), ("A", "x"), ("B", "y")]
        self.assertEqual(how_many(rules, ["x", "z", "y"], "S"), 0)
        self.assertEqual(how_many(rules, ["x", "x", "y"], "S"), 0)

    def test_small_tables_row_by_row(self):
        for rules in (SEEING, TANGLED, ANY_SHAPE):
            for many in range(6):
                for words in (SEEN[:many], ["x", "y", "x", "y", "x"][:many], ["x"] * many):
                    self.assertEqual(table_of(rules, words), plain_table(rules, words), (rules, words))

    def test_all_grammars_of_two_kinds_against_all_trees(self):
        joins = list(itertools.product("AB", repeat=3))
        trees = every_tree(3, ("A", "B"), ("x",))
        for chosen in itertools.product((False, True), repeat=len(joins)):
            rules = list(itertools.compress(joins, chosen)) + [("A", "x"), ("B", "x")]
            for kind in "AB":
                many = len([tree for tree in trees if tree[0] == kind and plain_is_tree(rules, ["x"] * 3, tree)])
                self.assertEqual(how_many(rules, ["x"] * 3, kind), many, rules)


class HowMany(unittest.TestCase):
    def test_none_one_and_more(self):
        self.assertEqual(how_many(SEEING, SEEN, "S"), 2)
        self.assertEqual(how_many(SEEING, SEEN[:3], "S"), 1)
        self.assertEqual(how_many(SEEING, SEEN[:2], "S"), 0)
        self.assertEqual(how_many(SEEING, ["dogs"], "N"), 1)

    def test_without_words_there_is_none(self):
        for kind in ("S", "N", "Nothing"):
            self.assertEqual(how_many(SEEING, [], kind), 0)
        self.assertEqual(how_many([], [], "S"), 0)

    def test_a_kind_that_no_rule_has(self):
        self.assertEqual(how_many(SEEING, SEEN, "Nothing"), 0)
        self.assertEqual(how_many(SEEING, SEEN, "s"), 0)
        self.assertEqual(how_many([], SEEN, "S"), 0)

    def test_a_kind_that_stands_in_rules_only_as_a_part(self):
        rules = [("S", "N", "V"), ("N", "dog")]
        self.assertEqual(how_many(rules, ["dog", "dog"], "V"), 0)
        self.assertEqual(how_many(rules, ["dog", "dog"], "S"), 0)

    def test_a_word_that_no_rule_has(self):
        self.assertEqual(how_many(SEEING, SEEN[:2] + ["cats"], "S"), 0)
        self.assertEqual(how_many(SEEING, ["cats"], "N"), 0)

    def test_it_is_the_last_row_of_the_first_start(self):
        words = ["x", "y", "x", "x", "y", "x"]
        rows = table_of(TANGLED, words)
        for kind in ("A", "B"):
            self.assertIn((0, 6, kind, how_many(TANGLED, words, kind)), rows)

    def test_a_hundred_words_and_somewhat_more(self):
        for many in (100, 120):
            self.assertEqual(how_many(ANY_SHAPE, ["x"] * many, "A"), catalan(many))
            self.assertEqual(how_many(ANY_SHAPE, ["x"] * many + ["y"], "A"), 0)

    def test_a_hundred_words_with_rules_for_all_kinds(self):
        kinds = "ABCD"
        rules = list(itertools.product(kinds, repeat=3)) + [(kind, "x") for kind in kinds]
        # Each part but the top, 198 of them, may be of each of the four kinds.
        self.assertEqual(how_many(rules, ["x"] * 100, "B"), catalan(100) * 4 ** 198)

    def test_a_hundred_words_and_a_hundred_rules_with_one_tree(self):
        names = [one + other for one in "abcdefghij" for other in "abcde"]
        rules = [(name, "x" + name) for name in names]
        rules += [("S", names[0], names[1])] + [("S", "S", name) for name in names[2:]]
        self.assertEqual(how_many(rules, ["x" + name for name in names], "S"), 1)
        self.assertEqual(how_many(rules, ["x" + name for name in names] + ["x" + names[2]] * 50, "S"), 1)

    def test_each_answer_is_a_list_of_its_own(self):
        rows = table_of(SEEING, SEEN)
        rows.clear()
        self.assertEqual(len(table_of(SEEING, SEEN)), 11)


if __name__ == "__main__":
    unittest.main()
