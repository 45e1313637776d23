"""What to take away so that wanted rights can come up, and promised ones cannot."""

from handedkeys.adding import Ground, bringing
from handedkeys.checks import check_case, check_most, check_rights, check_willing
from handedkeys.errors import TooLarge
from handedkeys.groups import least_groups
from handedkeys.reaching import Reach, grounds_of, reach_of

MOST_GONE = 3
MOST_HELD = 14
MOST_TAKEN_FROM = 8


def check_wishes(policy, state, wanted, promises):
    """Refuse what is no case, or no lists of wanted and of promised rights."""
    check_case(policy, state)
    check_rights(state, wanted)
    check_rights(state, promises)


def broken_ways(reach, wanted, promises):
    """A list of a way to a promised right, empty if none comes up; None, if a wanted one does not."""
    if not all([right in reach.since for right in wanted]):
        return None
    broken = [right for right in promises if right in reach.since]
    return [reach.way_to(right) for right in broken[:1]]


def grounds_left(policy, state, wanted, promises, gone):
    """The ways that are left without some rights, as lists of the rights of the state on which they go."""
    ways = broken_ways(reach_of(policy.rules, state - gone), wanted, promises)
    return None if ways is None else [grounds_of(way) for way in ways]


def numbers_left(policy, state, wanted, promises, taken):
    """The ways that are left without some rules, as lists of the numbers of the rules by which they go."""
    kept = [number for number in range(len(policy.rules)) if number not in taken]
    ways = broken_ways(reach_of([policy.rules[number] for number in kept], state), wanted, promises)
    return None if ways is None else [[kept[deed[0]] for deed in way.values() if deed is not None] for way in ways]


def people_left(policy, state, wanted, promises, unwilling):
    """The ways that are left without deeds of some people, as lists of those by whose deeds they go."""
    willing = [name for name in state.people if name not in unwilling]
    ways = broken_ways(Reach(policy.rules, state, willing), wanted, promises)
    return None if ways is None else [[deed[1] for deed in way.values() if deed is not None] for way in ways]


def least_mends(policy, state, wanted, promises, most=2):
    """The list of the least sets of rights of the state without which all is as it should be."""
    check_wishes(policy, state, wanted, promises)
    check_most(most, MOST_GONE)
    if len(state.rights) > MOST_HELD:
        raise TooLarge("the state has too many rights")
    return least_groups(state.rights, most, lambda gone: grounds_left(policy, state, wanted, promises, gone))


def least_taken(policy, state, wanted, promises):
    """The list of the least sets of numbers of rules without which all is as it should be."""
    check_wishes(policy, state, wanted, promises)
    many = len(policy.rules)
    if many > MOST_TAKEN_FROM:
        raise TooLarge("the policy has too many rules")
    return least_groups(list(range(many)), many, lambda taken: numbers_left(policy, state, wanted, promises, taken))


def least_unwilling(policy, state, wanted, promises):
    """The list of the least sets of people without whose deeds all is as it should be."""
    check_wishes(policy, state, wanted, promises)
    check_willing(state)
    people = state.people
    return least_groups(people, len(people), lambda names: people_left(policy, state, wanted, promises, names))


def at_odds(policy, state, wanted, promises):
    """The ascending list of the wanted rights with which alone a promised one could come up."""
    check_wishes(policy, state, wanted, promises)
    ground = Ground(policy.rules, state, list(wanted) + list(promises))
    return bringing(ground, sorted(set(wanted)), promises)
