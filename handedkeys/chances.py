"""By how many sets of people a right can come up, and with what chance."""

from math import gcd

from handedkeys.checks import check_question
from handedkeys.errors import BadNumber, BadParty
from handedkeys.forms import is_integer
from handedkeys.groups import groups_of, is_part
from handedkeys.helping import least_help

MOST_BOTTOM = 1000


def enough_sets(policy, state, right):
    """The list of all sets of people by whose deeds alone a right can come up, the smaller ones first."""
    least = least_help(policy, state, right)
    return [group for group in groups_of(state.people, len(state.people))
            if any([is_part(less, group) for less in least])]


def count_help(policy, state, right):
    """The list of how many of these sets have no, one, two people, and so on, up to all."""
    sizes = [len(group) for group in enough_sets(policy, state, right)]
    return [sizes.count(many) for many in range(len(state.people) + 1)]


def is_chance(value):
    """Whether a value is a pair of a top and a bottom that is not less."""
    if not isinstance(value, tuple) or len(value) != 2:
        return False
    top, bottom = value
    return is_integer(top) and is_integer(bottom) and 0 <= top <= bottom and 1 <= bottom <= MOST_BOTTOM


def are_chances(state, chances):
    """Whether a value is a dict from all people of a state to chances."""
    if not isinstance(chances, dict) or len(chances) != len(state.people):
        return False
    return all([name in chances and is_chance(chances[name]) for name in state.people])


def chance(policy, state, right, chances):
    """The chance that a right can come up, in lowest terms, if each of the people is willing with a chance."""
    check_question(policy, state, right)
    if not are_chances(state, chances):
        raise BadNumber("this is no dict from all people to chances")
    top = sum([share_of(state, chances, group) for group in enough_sets(policy, state, right)])
    bottom = 1
    for name in state.people:
        bottom = bottom * chances[name][1]
    common = gcd(top, bottom)
    return (top // common, bottom // common)


def share_of(state, chances, group):
    """The top of the chance that a group of people is willing, and nobody else, over all bottoms."""
    share = 1
    for name in state.people:
        top, bottom = chances[name]
        share = share * (top if name in group else bottom - top)
    return share


def weight_of(policy, state, right, name):
    """How many sets are enough that have one of the people, and are not enough without."""
    check_question(policy, state, right)
    if name not in state.people:
        raise BadParty(name)
    enough = {group: True for group in enough_sets(policy, state, right)}
    rests = [tuple([one for one in group if one != name]) for group in enough if name in group]
    return len([rest for rest in rests if rest not in enough])
