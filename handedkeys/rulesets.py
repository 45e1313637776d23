"""Which rules are enough, and what policies have in common."""

from handedkeys.checks import check_policy
from handedkeys.errors import TooLarge
from handedkeys.following import cases, cases_of, check_both, does_case, does_rule, judge_follows
from handedkeys.groups import groups_of, is_part
from handedkeys.policies import Policy

MOST_CHOSEN = 7


def are_enough(rules, numbers):
    """Whether the rules with some numbers do all that all rules do."""
    chosen = [rules[number] for number in numbers]
    for number, rule in enumerate(rules):
        if number not in numbers and not does_rule(chosen, rule):
            return False
    return True


def least_rules(policy):
    """The list of the least sets of numbers of rules that do all that a policy does."""
    check_policy(policy)
    if len(policy.rules) > MOST_CHOSEN:
        raise TooLarge("the policy has too many rules")
    found = []
    for numbers in groups_of(list(range(len(policy.rules))), len(policy.rules)):
        if not any([is_part(less, numbers) for less in found]) and are_enough(policy.rules, numbers):
            found.append(numbers)
    return found


def fewest_rules(policy):
    """The least number of rules that do all that a policy does."""
    return len(least_rules(policy)[0])


def missing(policy, other):
    """The list of the pairs of a number and a pair of a policy's rules that another policy does not do."""
    check_both(policy, other)
    return [case for case in cases(policy.rules) if not does_case(other.rules, policy.rules, case)]


def shared(policy, other):
    """The policy with those of its rules, and of their pairs, that another one does, too."""
    check_both(policy, other)
    rules = []
    for number, rule in enumerate(policy.rules):
        done = [pair for _, pair in cases_of(number, rule) if does_case(other.rules, policy.rules, (number, pair))]
        if done and rule[0] in ("fetch", "hand"):
            rules.append((rule[0], rule[1], done))
        elif done:
            rules.append(rule)
    return Policy(rules)


def compared(policy, other):
    """Whether a policy does the same as another one, more, less, or neither."""
    check_both(policy, other)
    does_all = bool(judge_follows(other, policy))
    is_done = bool(judge_follows(policy, other))
    if does_all and is_done:
        return "same"
    if does_all:
        return "more"
    return "less" if is_done else "unlike"
