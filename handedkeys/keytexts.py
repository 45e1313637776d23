"""Policies, states and plans as texts."""

from handedkeys.checks import check_plain_state, check_plan, check_policy, check_size
from handedkeys.listing import Listing, listing_lines
from handedkeys.policies import MOST_RULES, Policy
from handedkeys.rules import is_drop
from handedkeys.states import State
from handedkeys.wording import lines_of, pair_text, read_number, read_pair, read_rule, refuse_end, rule_text, text_of

DROP = "drop"


def read_policy(text):
    """The policy whose rules the lines of a text tell."""
    rules = []
    has_make = False
    for line in lines_of(text):
        is_second = has_make and line.said() == "make"
        if is_second or len(rules) == MOST_RULES:
            line.refuse(0)
        rules.append(read_rule(line))
        has_make = has_make or rules[-1][0] == "make"
    return Policy(rules)


def read_state(text):
    """The state whose parties and rights the lines of a text tell."""
    listing = Listing()
    for line in lines_of(text):
        if line.said(1) == ":":
            listing.read_head(line)
        else:
            listing.read_right(line)
    if not listing.known:
        refuse_end(text)
    return State(listing.all_people(), listing.all_things(), list(listing.rights))


def read_deed(line, rules):
    """The deed by some rules that a line tells."""
    if line.said() == DROP:
        deed = tuple([line.take_mark(DROP)] + [line.take_word() for _ in range(3)])
    else:
        number = read_number(line, len(rules))
        line.take_mark(":")
        deed = (number, line.take_word(), line.take_word())
        if rules[number][0] in ("fetch", "hand"):
            far = line.take_word()
            place = line.at
            pair = read_pair(line)
            if pair not in rules[number][2]:
                line.refuse(place)
            deed = deed + (far, pair)
    line.take_end()
    return deed


def read_plan(policy, text):
    """The list of the deeds of a policy that the lines of a text tell."""
    check_policy(policy)
    return [read_deed(line, policy.rules) for line in lines_of(text)]


def write_policy(policy):
    """The text of a policy."""
    check_policy(policy)
    return text_of([rule_text(rule) for rule in policy.rules])


def write_state(state):
    """The text of a state."""
    check_plain_state(state)
    check_size(state)
    return text_of(listing_lines(state.people, state.things, state.rights))


def deed_text(deed):
    """The text of a deed, without a line feed."""
    if is_drop(deed):
        return " ".join(deed)
    text = str(deed[0]) + ": " + " ".join(deed[1:4])
    return text + " " + pair_text(deed[4]) if len(deed) == 5 else text


def write_plan(policy, plan):
    """The text of a plan of a policy."""
    check_plan(policy, plan)
    return text_of([deed_text(deed) for deed in plan])
