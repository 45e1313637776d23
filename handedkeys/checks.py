"""The refusals that most functions have in common, in the order in which they come."""

from handedkeys.errors import BadPolicy, BadRight, BadState, TooLarge
from handedkeys.forms import is_right
from handedkeys.policies import Policy
from handedkeys.states import State

MOST_PARTIES = 12


def check_policy(policy):
    """Refuse what is no policy."""
    if not isinstance(policy, Policy):
        raise BadPolicy(None)


def check_state(policy, state):
    """Refuse what is no policy, or no state, whatever its size."""
    check_policy(policy)
    if not isinstance(state, State):
        raise BadState(None)


def check_case(policy, state):
    """Refuse what is no policy, no state, or a state of too many parties."""
    check_state(policy, state)
    if len(state.people) + len(state.things) > MOST_PARTIES:
        raise TooLarge("the state has too many parties")


def check_question(policy, state, right):
    """Refuse what check_case refuses, and what is no right between the parties."""
    check_case(policy, state)
    if not is_right(right, state.people + state.things):
        raise BadRight("this is no right between the parties")
