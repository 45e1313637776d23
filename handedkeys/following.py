"""Whether a policy does all that another one does, in all states."""

from handedkeys.boards import leads_to
from handedkeys.checks import check_policy
from handedkeys.errors import BadNumber
from handedkeys.forms import as_group, as_rows, is_place
from handedkeys.policies import Policy
from handedkeys.reaching import reach_of
from handedkeys.rules import asked_for, brought_by, make_number
from handedkeys.states import State
from handedkeys.webs import helper_of


class Does:
    """For each rule and pair but the make, deeds of another policy that do the same."""

    def __init__(self, ways):
        self.ways = plain_ways(ways)

    def shows(self, policy, other):
        """Whether these deeds of the other policy do so, and it does a make, too."""
        check_both(policy, other)
        ways = plain_ways(self.ways)
        pairs = [case for case in cases(policy.rules) if policy.rules[case[0]][0] != "make"]
        if len(ways) != len(pairs) or not all([case in ways for case in pairs]):
            return False
        return all([is_way(policy.rules, case, other.rules, ways.get(case)) for case in cases(policy.rules)])

    def __bool__(self):
        return True

    def __eq__(self, other):
        return isinstance(other, Does) and plain_ways(self.ways) == plain_ways(other.ways)


class Lacks:
    """A rule and its pair that another policy does not do; the pair is None without one."""

    def __init__(self, number, pair):
        self.number = number
        self.pair = as_group(pair)

    def shows(self, policy, other):
        """Whether the policy has this rule and pair, and the other one does not do it."""
        check_both(policy, other)
        pair = as_group(self.pair)
        if not is_case(policy.rules, self.number, pair):
            return False
        return not does_case(other.rules, policy.rules, (self.number, pair))

    def __bool__(self):
        return False

    def __eq__(self, other):
        return (isinstance(other, Lacks) and self.number == other.number
                and as_group(self.pair) == as_group(other.pair))


def plain_ways(ways):
    """A copy of a dict to lists of deeds."""
    return {case: as_rows(ways[case]) for case in ways}


def check_both(policy, other):
    """Refuse what is no policy."""
    check_policy(policy)
    check_policy(other)


def cases_of(number, rule):
    """The list of the pairs of the number of a rule and each of its pairs, None without pairs."""
    pairs = rule[2] if rule[0] in ("fetch", "hand") else [None]
    return [(number, pair) for pair in pairs]


def cases(rules):
    """The list of the pairs of a number and a pair of all rules."""
    return [case for number, rule in enumerate(rules) for case in cases_of(number, rule)]


def is_case(rules, number, pair):
    """Whether a number and a pair are those of one of some rules."""
    return is_place(number, len(rules)) and (number, pair) in cases_of(number, rules[number])


def bare_case(rules, case):
    """The bare state of a rule and its pair, and the list of the rights that the rule brings."""
    number, pair = case
    kind = rules[number][0]
    if kind == "make":
        return State(["ann"], []), []
    if kind in ("fetch", "hand"):
        things, deed = ["box", "cup"], (number, "ann", "box", "cup", pair)
    else:
        things, deed = ["box"], (number, "ann", "box")
    return State(["ann"], things, asked_for(rules, deed)), brought_by(rules, deed)


def wanted_in(rules, case):
    """The bare state of a rule and its pair, and what must come up there, helpers told."""
    state, brought = bare_case(rules, case)
    if rules[case[0]][0] == "make":
        return state, brought_by(rules, (case[0], "ann", helper_of("ann")))
    return state, brought


def does_case(doing, rules, case):
    """Whether some rules do what a rule of others does with its pair."""
    state, wanted = wanted_in(rules, case)
    since = reach_of(doing, state).since
    return all([right in since for right in wanted])


def does_rule(doing, rule):
    """Whether some rules do what a single rule does, with all its pairs."""
    for case in cases([rule]):
        if not does_case(doing, [rule], case):
            return False
    return True


def is_way(rules, case, doing, deeds):
    """Whether deeds of some rules do what a rule of others does; for a make, whether they can."""
    if rules[case[0]][0] == "make":
        return does_case(doing, rules, case)
    state, wanted = bare_case(rules, case)
    return leads_to(doing, state, deeds, wanted[0])


def bare_state(policy, number, pair=None):
    """The bare state of a rule and its pair, and the list of the rights that the rule brings."""
    check_policy(policy)
    if not is_case(policy.rules, number, pair):
        raise BadNumber("this is no rule and its pair")
    return bare_case(policy.rules, (number, pair))


def judge_follows(policy, other):
    """A Does, if the other policy does all that the policy does, otherwise a Lacks."""
    check_both(policy, other)
    ways = {}
    for case in cases(policy.rules):
        state, wanted = wanted_in(policy.rules, case)
        reach = reach_of(other.rules, state)
        if not all([right in reach.since for right in wanted]):
            return Lacks(case[0], case[1])
        if policy.rules[case[0]][0] != "make":
            ways[case] = reach.deeds_to(wanted[0])
    return Does(ways)


def are_alike(policy, other):
    """Whether each of two policies does all that the other one does."""
    return bool(judge_follows(policy, other)) and bool(judge_follows(other, policy))


def needless(policy):
    """The list of the numbers of the rules without which alone the policy does as much."""
    check_policy(policy)
    rules = policy.rules
    return [number for number, rule in enumerate(rules) if does_rule(rules[:number] + rules[number + 1:], rule)]


def lean(policy):
    """The policy without the rules that the others do, taken out one by one from the last one on."""
    check_policy(policy)
    left = policy.rules
    for number in reversed(range(len(policy.rules))):
        fewer = left[:number] + left[number + 1:]
        if does_rule(fewer, left[number]):
            left = fewer
    return Policy(left)


def joined(policy, other):
    """The policy with those rules of another one behind its own that they do not do already."""
    check_both(policy, other)
    rules = list(policy.rules)
    for rule in other.rules:
        place = make_number(rules)
        if rule[0] == "make" and place is not None:
            rules[place] = ("make", tuple(sorted(set(rules[place][1] + rule[1]))))
        elif not does_rule(rules, rule):
            rules.append(rule)
    return Policy(rules)
