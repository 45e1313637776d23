"""Without which rights of a state others never come up, and which it can do without."""

from handedkeys.adding import Ground
from handedkeys.checks import check_case, check_most, check_question
from handedkeys.errors import BadRight, TooLarge
from handedkeys.forms import is_row, is_triple
from handedkeys.groups import least_groups
from handedkeys.reaching import grounds_of, reach_of

MOST_CUT = 3
MOST_ON_WAYS = 14


def least_cuts(policy, state, right, most=2):
    """The list of the least sets of rights of a state without which a right never comes up."""
    check_question(policy, state, right)
    check_most(most, MOST_CUT)
    ground = Ground(policy.rules, state, [right])
    rights = ground.on_ways(ground.rows, state.rights, [right])
    if len(rights) > MOST_ON_WAYS:
        raise TooLarge("ways go on too many rights of the state")
    return least_groups(rights, most, lambda gone: grounds_without(policy, state, right, gone))


def grounds_without(policy, state, right, gone):
    """A list of the rights of the state on which one way to a right goes without some; empty without a way."""
    reach = reach_of(policy.rules, state - gone)
    return [grounds_of(reach.way_to(right))] if right in reach.since else []


def only_hopes(policy, state, right):
    """The ascending list of the rights of a state without each of which alone a right never comes up."""
    check_question(policy, state, right)
    ways = grounds_without(policy, state, right, [])
    if not ways:
        return list(state.rights)
    hopes = []
    tried = sorted(ways[0])
    for one in tried:
        if not all([one in way for way in ways]):
            continue
        left = grounds_without(policy, state, right, [one])
        if left:
            ways.extend(left)
        else:
            hopes.append(one)
    return hopes


def idle_rights(policy, state):
    """The ascending list of the rights of a state that can come up again if they alone are not there.

    Halves of the rights are put back and tried again, so that what comes up without all of some
    rights is worked out once for them.
    """
    check_case(policy, state)
    rights = may_come_again(policy, state)
    ground = Ground(policy.rules, state - rights, rights)
    found = []
    ahead = [(ground.rows, rights)]
    while ahead:
        rows, gone = ahead.pop()
        found.extend([right for right in gone if ground.web.has(rows, right)])
        left = [right for right in gone if not ground.web.has(rows, right)]
        if len(left) > 1:
            half = len(left) // 2
            ahead.append((ground.with_more(rows, left[half:]), left[:half]))
            ahead.append((ground.with_more(rows, left[:half]), left[half:]))
    return sorted(found)


def may_come_again(policy, state):
    """The list of the rights of a state whose words some rule, but a make, brings."""
    words = {}
    for rule in policy.rules:
        if rule[0] in ("fetch", "hand"):
            words.update({pair[1]: True for pair in rule[2]})
        elif rule[0] != "make":
            words[rule[-1]] = True
    return [right for right in state.rights if right[1] in words]


def what_is_lost(policy, state, gone):
    """The ascending list of the rights between the parties that can come up, but not without some rights."""
    check_case(policy, state)
    held = {right: True for right in state.rights}
    if not is_row(gone) or not all([is_triple(right) and right in held for right in gone]):
        raise BadRight("this is no list of rights that are there")
    later = reach_of(policy.rules, state - gone).since
    return [right for right in reach_of(policy.rules, state).between_parties() if right not in later]
