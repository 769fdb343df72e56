import itertools
import re
import unittest

from clausewood.errors import NoLine
from clausewood.notes import read, shown
from helpers import even, every_tree, join, leaf, leaning_left, leaning_right, some_words

DOG_RUNS = ("S", ("N", "dog"), ("V", "runs"))
DOG_LINE = "(S (N dog) (V runs))"
# The list of point 12.
NAMED = (
    "(S dog", "(S)", "S", "()", "(S  dog)", "(S dog) ", "(S (N dog))", "(S (N dog) runs)", "(S d1)", "",
)
OTHERS = (
    " ", "(", ")", ")(", "dog", "dog)", "S dog", "S dog)", "(S dog))", "((S dog)", "((S dog))", "(S dog)(S dog)",
    "(S dog) (S dog)", "(S dog) S", "(S dog) dog)", "(S dog) (", "(S dog) )", "( S dog)", "(S dog )", "( dog)",
    "(S )", "(S ()", "(S ())", "( )", "(S dog runs)", "(S dog (V runs))", "(S (N dog)(V runs))",
    "(S (N dog)  (V runs))", "(S  (N dog) (V runs))", "(S (N dog) (V runs) )", "(S(N dog) (V runs))", "(Sdog)",
    "(S (N dog) (V runs) (V runs))", "(S (N dog) (V runs)) (V runs)", "((N dog) (V runs))", "( (N dog) (V runs))",
    "(S (N dog) (V runs)))", "(S (N dog) (V runs)", " (S dog)", "\t(S dog)", "(S\tdog)", "(S\ndog)", "(S dog)\n",
    "\n(S dog)", "(S dog)\0", "(S\u00a0dog)", "(S dog)\u00a0", "(S\u3000dog)", "\ufeff(S dog)", "(S dog)\u2028",
    "\uff08S dog\uff09", "[S dog]", "(S 'dog')", "(S, dog)", "('S', 'dog')", "(S dog);", "(S d-g)", "(S d_g)", "(5 dog)",
    "(S dog) (V runs))", "(S (N dog) V runs))", "(S N dog) (V runs))", "(S ((N dog) (V runs)))", "(S d(og)", "(S d)og)",
    "(S (N dog) (V runs)x)", "(S (N dog)x (V runs))", "x(S dog)", "(S dog)x",
)
OTHER_LETTERS = ("\u00e9", "\u00df", "\u03b1", "\u0430", "\u5b57", "\uff41", "\u212a", "\u0131", "\ufb01", "\u0301", "\ud800")


def plain_line(tree):
    if len(tree) == 2:
        return "(" + tree[0] + " " + tree[1] + ")"
    return "(" + tree[0] + " " + plain_line(tree[1]) + " " + plain_line(tree[2]) + ")"


def is_line(text):
    """Leaves are turned into a sign of their own, then the trees above such signs, until nothing turns any more."""
    turned = None
    now = "" if "#" in text else text
    while now != turned:
        turned = now
        now = re.sub(r"\([a-zA-Z]+ ([a-zA-Z]+|# #)\)", "#", turned)
    return now == "#"


def near(line, signs):
    """The line with one sign changed, put in or cut out at each place."""
    found = [line[:at] + line[at + 1:] for at in range(len(line))]
    for sign in signs:
        found.extend([line[:at] + sign + line[at + 1:] for at in range(len(line))])
        found.extend([line[:at] + sign + line[at:] for at in range(len(line) + 1)])
    return found


class Shown(unittest.TestCase):
    def test_a_leaf(self):
        self.assertEqual(shown(("N", "dog")), "(N dog)")

    def test_the_tree_of_the_document(self):
        self.assertEqual(shown(DOG_RUNS), DOG_LINE)

    def test_left_and_right(self):
        self.assertEqual(shown(leaning_left(["x", "y", "z"])), "(A (A (A x) (A y)) (A z))")
        self.assertEqual(shown(leaning_right(["x", "y", "z"])), "(A (A x) (A (A y) (A z)))")

    def test_kinds_written_like_words(self):
        self.assertEqual(shown(("dog", ("dog", "dog"), ("S", "S"))), "(dog (dog dog) (S S))")

    def test_all_small_trees(self):
        for many in range(1, 5):
            trees = every_tree(many, ("A", "Bb"), ("x", "yY"))
            lines = [shown(tree) for tree in trees]
            self.assertEqual(lines, [plain_line(tree) for tree in trees])
            self.assertEqual([read(line) for line in lines], trees)
            self.assertEqual(len(set(lines)), len(trees))

    def test_a_hundred_words_and_somewhat_more(self):
        for many in (100, 130):
            words = some_words(many)
            left = "(A " * many + words[0] + ")" + "".join([" (A " + word + "))" for word in words[1:]])
            right = "".join(["(A (A " + word + ") " for word in words[:-1]]) + "(A " + words[-1] + ")" * many
            self.assertEqual(shown(leaning_left(words)), left)
            self.assertEqual(shown(leaning_right(words)), right)
            for build in (leaning_left, leaning_right, even):
                self.assertEqual(read(shown(build(words))), build(words))


class Read(unittest.TestCase):
    def check(self, text):
        if is_line(text):
            self.assertEqual(plain_line(read(text)), text)
        else:
            with self.assertRaises(NoLine, msg=repr(text)):
                read(text)

    def test_the_tree_of_the_document(self):
        self.assertEqual(read(DOG_LINE), DOG_RUNS)
        self.assertEqual(read("(S dog)"), ("S", "dog"))

    def test_whatever_the_rules(self):
        self.assertEqual(read("(a (a a) (A (zZ Q) (dog dog)))"), ("a", ("a", "a"), ("A", ("zZ", "Q"), ("dog", "dog"))))

    def test_the_texts_that_the_document_names(self):
        for text in NAMED:
            with self.subTest(text=text), self.assertRaises(NoLine):
                read(text)

    def test_other_texts_that_are_no_lines(self):
        for text in OTHERS:
            with self.subTest(text=text), self.assertRaises(NoLine):
                read(text)

    def test_a_text_behind_or_ahead_of_the_line(self):
        for line in ("(S dog)", DOG_LINE):
            for text in NAMED[:-1] + OTHERS + ("(S dog)", DOG_LINE):
                for longer in (line + text, line + " " + text, text + line, text + " " + line):
                    with self.subTest(text=longer), self.assertRaises(NoLine):
                        read(longer)

    def test_one_sign_changed_put_in_or_cut_out(self):
        signs = "() aSz1\n\t_#" + "".join(OTHER_LETTERS)
        for line in ("(S dog)", DOG_LINE, "(A (A (A x) (A y)) (A (A z) (A u)))"):
            for text in near(line, signs):
                self.check(text)

    def test_two_signs_changed_put_in_or_cut_out(self):
        for line in ("(a b)", "(a (b c) (d e))"):
            for text in near(line, "() a"):
                for other in near(text, "() a"):
                    self.check(other)

    def test_all_short_texts(self):
        for size in range(8):
            for signs in itertools.product("() a", repeat=size):
                self.check("".join(signs))

    def test_all_short_rows_of_pieces(self):
        pieces = ("(a", "a)", "a))", "a)))")
        for size in range(7):
            for row in itertools.product(pieces, repeat=size):
                self.check(" ".join(row))

    def test_letters_of_another_alphabet(self):
        for letter in OTHER_LETTERS:
            for text in (
                "(" + letter + " dog)", "(S " + letter + ")", "(S do" + letter + ")", "(S" + letter + " dog)",
                "(S (N dog) (V " + letter + "))", "(S (" + letter + " dog) (V runs))",
                "(" + letter + " (N dog) (V runs))",
            ):
                with self.subTest(text=repr(text)), self.assertRaises(NoLine):
                    read(text)

    def test_every_letter(self):
        letters = "abcdefghijklmnopqrstuvwxyzABCDEFGHIJKLMNOPQRSTUVWXYZ"
        self.assertEqual(read("(" + letters + " " + letters + ")"), (letters, letters))
        for letter in letters:
            self.assertEqual(read("(" + letter + " " + letter + ")"), (letter, letter))

    def test_a_hundred_words_with_one_sign_too_many_or_too_few(self):
        for build in (leaning_left, leaning_right, even):
            line = shown(build(some_words(100)))
            for text in (line[:-1], line[1:], line + ")", "(" + line, line + " ", " " + line, line + line):
                self.assertRaises(NoLine, read, text)

    def test_very_long_and_deep_texts(self):
        many = 50000
        for text in (
            "(" * many, ")" * many, " " * many, "a" * many, "(A " * many, "(A" * many, "(A a) " * many, "A " * many,
            "(A " * many + "a" + ")" * many, "(A (A a) " * many, "(A (A a) " * many + "(A a)" + ")" * (many + 1),
            "(A " * many + "a)" + " (A a))" * many,
        ):
            with self.subTest(begin=text[:10]), self.assertRaises(NoLine):
                read(text)

    def test_a_very_deep_line_is_read(self):
        many = 20000
        tree = read("(A (A a) " * many + "(A a)" + ")" * many)
        for step in range(many):
            self.assertEqual(tree[:2], ("A", ("A", "a")))
            tree = tree[2]
        self.assertEqual(tree, ("A", "a"))

    def test_what_is_read_is_made_of_tuples_and_texts(self):
        tree = read("(A (A x) (A y))")
        self.assertEqual(tree, join(leaf("x"), leaf("y")))
        self.assertIs(type(tree), tuple)
        self.assertIs(type(tree[2]), tuple)
        self.assertIs(type(tree[2][1]), str)


if __name__ == "__main__":
    unittest.main()
