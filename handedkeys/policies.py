"""Policies: the rules by which people get rights, and give them."""

from handedkeys.errors import BadPolicy
from handedkeys.forms import are_words, is_group, is_place, is_row, is_word
from handedkeys.rules import made_words, rule_words

MOST_RULES = 12
MOST_IN_ONE = 9


def plain_pairs(pairs):
    """Pairs of words as an ascending tuple; None for what is no such list."""
    if not is_row(pairs) or not 1 <= len(pairs) <= MOST_IN_ONE:
        return None
    if not all([is_group(pair, 2) for pair in pairs]) or len(set(pairs)) < len(pairs):
        return None
    return tuple(sorted(pairs))


def plain_rule(rule):
    """A rule with its pairs or made words as ascending tuples; None for what is no rule."""
    if not isinstance(rule, tuple) or len(rule) < 2:
        return None
    kind = rule[0]
    if kind == "make" and len(rule) == 2:
        fits = are_words(rule[1]) and 1 <= len(rule[1]) <= MOST_IN_ONE
        return (kind, tuple(sorted(rule[1]))) if fits else None
    if kind in ("fetch", "hand") and len(rule) == 3 and is_word(rule[1]):
        pairs = plain_pairs(rule[2])
        return None if pairs is None else (kind, rule[1], pairs)
    if kind == "raise" and is_group(rule[1:], 2) or kind == "meet" and is_group(rule[1:], 3):
        return rule
    return None


class Policy:
    """Rules, at most twelve, at most one of them a make."""

    def __init__(self, rules):
        if not is_row(rules) or len(rules) > MOST_RULES:
            raise BadPolicy(None)
        plain = [plain_rule(rule) for rule in rules]
        makes = [number for number, rule in enumerate(plain) if rule is not None and rule[0] == "make"]
        wrong = [number for number, rule in enumerate(plain) if rule is None] + makes[1:]
        if wrong:
            raise BadPolicy(min(wrong))
        self.rules = tuple(plain)

    def without(self, *numbers):
        """The policy without the rules with some numbers."""
        for number in numbers:
            if not is_place(number, len(self.rules)):
                raise BadPolicy(number)
        return Policy([rule for number, rule in enumerate(self.rules) if number not in numbers])

    def made(self):
        """The tuple of the words of the make; None without a make."""
        return made_words(self.rules)

    def words(self):
        """The ascending list of all words of the rules."""
        return rule_words(self.rules)

    def __len__(self):
        return len(self.rules)

    def __iter__(self):
        return iter(self.rules)

    def __getitem__(self, number):
        if not is_place(number, len(self.rules)):
            raise BadPolicy(number)
        return self.rules[number]

    def __eq__(self, other):
        return isinstance(other, Policy) and self.rules == other.rules

    def __add__(self, other):
        if not isinstance(other, Policy):
            return NotImplemented
        return Policy(list(self.rules) + [rule for rule in other.rules if rule not in self.rules])
