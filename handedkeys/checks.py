"""The refusals that most functions have in common, in the order in which they come."""

from handedkeys.errors import BadDeed, BadNumber, BadParty, BadPolicy, BadRight, BadState, TooLarge
from handedkeys.forms import are_rights, is_place, is_right, is_row
from handedkeys.policies import Policy
from handedkeys.rules import has_form
from handedkeys.states import State

MOST_PARTIES = 12
MOST_WILLING = 8


def check_policy(policy):
    """Refuse what is no policy."""
    if not isinstance(policy, Policy):
        raise BadPolicy(None)


def check_plain_state(state):
    """Refuse what is no state, whatever its size."""
    if not isinstance(state, State):
        raise BadState(None)


def check_state(policy, state):
    """Refuse what is no policy, or no state, whatever its size."""
    check_policy(policy)
    check_plain_state(state)


def check_size(state):
    """Refuse a state of too many parties."""
    if len(state.people) + len(state.things) > MOST_PARTIES:
        raise TooLarge("the state has too many parties")


def check_plan(policy, plan):
    """Refuse what is no policy, and what is no list or tuple of values in the form of its deeds."""
    check_policy(policy)
    if not is_row(plan):
        raise BadDeed(None)
    for place, deed in enumerate(plan):
        if not has_form(policy.rules, deed):
            raise BadDeed(place)


def check_case(policy, state):
    """Refuse what is no policy, no state, or a state of too many parties."""
    check_state(policy, state)
    check_size(state)


def check_question(policy, state, right):
    """Refuse what check_case refuses, and what is no right between the parties."""
    check_case(policy, state)
    if not is_right(right, state.people + state.things):
        raise BadRight("this is no right between the parties")


def check_rights(state, rights):
    """Refuse what is no list or tuple of rights between the parties."""
    if not are_rights(rights, state.people + state.things):
        raise BadRight("this is no list of rights between the parties")


def check_people(state, names):
    """Refuse what is no list or tuple of some of the people."""
    if not is_row(names):
        raise BadParty(None)
    for name in names:
        if name not in state.people:
            raise BadParty(name)


def check_willing(state):
    """Refuse a state of more people than can be gone through, set by set."""
    if len(state.people) > MOST_WILLING:
        raise TooLarge("the state has too many people")


def check_most(most, top):
    """Refuse what is no integer from 0 up to a greatest one."""
    if not is_place(most, top + 1):
        raise BadNumber("this is no such number")
