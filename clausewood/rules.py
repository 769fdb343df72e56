"""What a name (a kind or a word), a rule and a grammar are, and the refusal of what is no grammar."""

from clausewood.errors import NoRule, Twice

# Written out, because isalpha takes the letters of every alphabet.
LETTERS = "abcdefghijklmnopqrstuvwxyzABCDEFGHIJKLMNOPQRSTUVWXYZ"


def is_name(text):
    return text != "" and all([sign in LETTERS for sign in text])


def is_rule(parts):
    return len(parts) in (2, 3) and all([is_name(part) for part in parts])


def check_grammar(rules):
    # Two walks: a tuple that is no rule is told of first, even behind a rule that stands twice.
    for rule in rules:
        if not is_rule(rule):
            raise NoRule(f"this is no rule: {rule!r}")
    seen = {}
    for rule in rules:
        if rule in seen:
            raise Twice(f"this rule stands twice: {rule!r}")
        seen[rule] = True
