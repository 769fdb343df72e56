import string
import unittest

from clausewood.errors import NoRule, Twice
from clausewood.rules import check_grammar, is_name, is_rule

GOOD = [("S", "N", "V"), ("N", "dog"), ("V", "runs")]
# Each stands beside a letter in some code table, or is a letter of another alphabet,
# or turns into plain letters when it is folded to lower or upper case.
WRONG_SIGNS = (
    "0", "9", " ", "_", "-", ".", "'", "(", ")", "\n", "\t", "\0",
    "@", "[", "`", "{",
    "\u00e9", "\u00df", "\u03b1", "\u0430", "\u5b57", "\uff41", "\u212a", "\u0131", "\ufb01", "\u0301",
)
NO_RULES = (
    (), ("S",), ("S", "N", "V", "A"), ("S", "N", "V", "A", "B"),
    ("", "dog"), ("N", ""), ("", "N", "V"), ("S", "", "V"), ("S", "N", ""), ("", ""),
)


class Names(unittest.TestCase):
    def test_every_letter_is_a_name(self):
        for letter in string.ascii_letters:
            self.assertIs(is_name(letter), True)
        self.assertIs(is_name(string.ascii_letters), True)

    def test_no_other_sign_of_the_first_thousands_is_a_name(self):
        for code in range(0x3000):
            sign = chr(code)
            self.assertEqual(is_name(sign), sign in string.ascii_letters, repr(sign))

    def test_the_empty_text_is_none(self):
        self.assertIs(is_name(""), False)

    def test_one_wrong_sign_anywhere_spoils_it(self):
        for sign in WRONG_SIGNS:
            for text in (sign, sign + "dog", "do" + sign + "g", "dog" + sign):
                self.assertIs(is_name(text), False, repr(text))


class Rules(unittest.TestCase):
    def test_two_or_three_names_are_a_rule(self):
        for rule in GOOD + [("a", "a"), ("a", "a", "a"), ("Noun", "DOG")]:
            self.assertIs(is_rule(rule), True, rule)

    def test_other_tuples_are_none(self):
        for wrong in NO_RULES:
            self.assertIs(is_rule(wrong), False, wrong)

    def test_a_wrong_sign_in_any_part(self):
        for sign in WRONG_SIGNS:
            for rule in (("N", "dog"), ("S", "N", "V")):
                for at in range(len(rule)):
                    wrong = rule[:at] + (rule[at] + sign,) + rule[at + 1:]
                    self.assertIs(is_rule(wrong), False, wrong)


class Grammars(unittest.TestCase):
    def test_a_grammar_passes(self):
        check_grammar(GOOD)

    def test_the_empty_grammar_passes(self):
        check_grammar([])

    def test_kinds_and_words_written_alike_pass(self):
        check_grammar([("a", "a"), ("a", "a", "a")])

    def test_rules_that_are_only_near_to_each_other_pass(self):
        check_grammar([("N", "dog"), ("n", "dog"), ("N", "Dog"), ("dog", "N"), ("N", "do", "g"), ("N", "g", "do")])

    def test_more_than_a_hundred_rules_pass(self):
        letters = string.ascii_letters
        check_grammar([("N", one + other) for one in letters[:12] for other in letters[:10]])

    def test_a_tuple_that_is_no_rule_anywhere(self):
        for wrong in NO_RULES + tuple([("N", "d" + sign) for sign in WRONG_SIGNS]):
            for at in range(len(GOOD) + 1):
                with self.subTest(wrong=wrong, at=at), self.assertRaises(NoRule):
                    check_grammar(GOOD[:at] + [wrong] + GOOD[at:])

    def test_a_rule_that_stands_twice_anywhere(self):
        for rule in GOOD:
            for at in range(len(GOOD) + 1):
                with self.subTest(rule=rule, at=at), self.assertRaises(Twice):
                    check_grammar(GOOD[:at] + [tuple(list(rule))] + GOOD[at:])

    def test_no_rule_is_told_where_both_hold(self):
        twice = [("N", "dog"), ("N", "dog")]
        for wrong in NO_RULES:
            for at in range(len(twice) + 1):
                with self.subTest(wrong=wrong, at=at), self.assertRaises(NoRule):
                    check_grammar(twice[:at] + [wrong] + twice[at:])

    def test_what_is_no_rule_and_stands_twice_is_no_rule(self):
        for wrong in NO_RULES:
            with self.subTest(wrong=wrong), self.assertRaises(NoRule):
                check_grammar([wrong, wrong])

    def test_the_grammar_is_not_changed(self):
        for rules, error in ((GOOD, None), (GOOD + GOOD, Twice), (GOOD + [()], NoRule)):
            handed = list(rules)
            if error is None:
                check_grammar(handed)
            else:
                self.assertRaises(error, check_grammar, handed)
            self.assertEqual(handed, rules)


if __name__ == "__main__":
    unittest.main()
