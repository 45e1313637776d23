"""Rules as policies keep them, and the deeds that they let people do."""

from handedkeys.forms import is_group, is_place


def make_number(rules):
    """The number of the make among some rules; None without a make."""
    for number, rule in enumerate(rules):
        if rule[0] == "make":
            return number
    return None


def made_words(rules):
    """The words of the make among some rules; None without a make."""
    number = make_number(rules)
    return None if number is None else rules[number][1]


def words_of(rule):
    """The list of the words of a rule, some perhaps twice."""
    if rule[0] == "make":
        return list(rule[1])
    if rule[0] in ("fetch", "hand"):
        return [rule[1]] + [word for pair in rule[2] for word in pair]
    return list(rule[1:])


def rule_words(rules):
    """The ascending list of all words of some rules."""
    return sorted(set([word for rule in rules for word in words_of(rule)]))


def is_drop(deed):
    """Whether a deed is a drop; a deed of a rule begins with a number."""
    return deed[0] == "drop"


def is_make(rules, deed):
    """Whether a deed is the make of a new thing."""
    return not is_drop(deed) and rules[deed[0]][0] == "make"


def has_form(rules, deed):
    """Whether a value has the form of a deed by some rules, be it done or not."""
    if not isinstance(deed, tuple) or len(deed) < 3:
        return False
    if not is_place(deed[0], len(rules)):
        return is_drop(deed) and is_group(deed[1:], 3)
    rule = rules[deed[0]]
    if rule[0] in ("fetch", "hand"):
        return len(deed) == 5 and is_group(deed[1:4], 3) and deed[4] in rule[2]
    return is_group(deed[1:], 2)


def asked_for(rules, deed):
    """The list of the rights that a deed asks for."""
    if is_drop(deed):
        return [deed[1:]]
    rule, actor, other = rules[deed[0]], deed[1], deed[2]
    if rule[0] == "make":
        return []
    if rule[0] == "fetch":
        return [(actor, rule[1], other), (other, deed[4][0], deed[3])]
    if rule[0] == "hand":
        return [(actor, rule[1], other), (actor, deed[4][0], deed[3])]
    return [(actor, word, other) for word in rule[1:-1]]


def brought_by(rules, deed):
    """The list of the rights that a deed brings."""
    if is_drop(deed):
        return []
    rule, actor, other = rules[deed[0]], deed[1], deed[2]
    if rule[0] == "make":
        return [(actor, word, other) for word in rule[1]]
    if rule[0] == "fetch":
        return [(actor, deed[4][1], deed[3])]
    if rule[0] == "hand":
        return [(other, deed[4][1], deed[3])]
    return [(actor, rule[-1], other)]
