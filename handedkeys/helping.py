"""By whose deeds a right can come up, if others are not willing."""

from handedkeys.checks import check_case, check_people, check_question, check_willing
from handedkeys.errors import BadParty
from handedkeys.groups import is_part
from handedkeys.reaching import Reach
from handedkeys.webs import Web


def comes_with(policy, state, right, names):
    """Whether a right can come up by the deeds of some people alone."""
    return right in Reach(policy.rules, state, names).since


def comes_by(policy, state, right, names):
    """Whether a right can come up by the deeds of some people alone."""
    check_question(policy, state, right)
    check_people(state, names)
    return comes_with(policy, state, right, [name for name in state.people if name in names])


def least_help(policy, state, right):
    """The list of the least sets of people by whose deeds a right can come up."""
    check_question(policy, state, right)
    check_willing(state)
    if right in state.rights:
        return [()]
    if not comes_with(policy, state, right, state.people):
        return []
    web = Web(policy.rules, state.people, state.things)
    found = least_sets(web, web.rows_of(state.rights), len(state.people), right)
    return [tuple([state.people[place] for place in places]) for places in found]


def least_sets(web, rows, many, right):
    """The least sets of places of so many people by whose deeds a right comes up, not by nobody's.

    Each set is taken up with what comes up by its people but the last one, so that only what
    this one adds is worked out.
    """
    found = []
    layer = [((place,), rows) for place in range(many)]
    while layer:
        following = []
        for places, behind in list(layer):
            if any([is_part(less, places) for less in found]):
                continue
            grown = {word: list(row) for word, row in behind.items()}
            web.spread(grown, places, places[-1:])
            if web.has(grown, right):
                found.append(places)
            else:
                following.extend([(places + (place,), grown) for place in range(places[-1] + 1, many)])
        layer = following
    return found


def needed_help(policy, state, right):
    """The ascending list of the people without whose deeds a right never comes up."""
    check_question(policy, state, right)
    return [name for name in state.people
            if not comes_with(policy, state, right, [one for one in state.people if one != name])]


def is_theft(policy, state, right):
    """Whether a right can come up without any deeds of those who have it at the beginning."""
    check_question(policy, state, right)
    _, word, other = right
    owners = {one: True for one, held, party in state.rights if held == word and party == other}
    return comes_with(policy, state, right, [name for name in state.people if name not in owners])


def alone(policy, state, name):
    """The ascending list of the new rights that can come up by one person's deeds alone."""
    check_case(policy, state)
    if name not in state.people:
        raise BadParty(name)
    reach = Reach(policy.rules, state, [name])
    return [right for right in reach.between_parties() if reach.since[right] > 0]
