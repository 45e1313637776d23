"""In which round each right comes up, if all deeds are done at once in each."""

from handedkeys.checks import check_case, check_question
from handedkeys.errors import BadNumber, NeverComes
from handedkeys.forms import is_integer
from handedkeys.reaching import reach_of


def rounds(policy, state):
    """A dict, ascending, from the rights between the parties that can come up to their rounds."""
    check_case(policy, state)
    reach = reach_of(policy.rules, state)
    return {right: reach.since[right] for right in reach.between_parties()}


def round_for(policy, state, right):
    """The round in which a right comes up, 0 if it is there."""
    check_question(policy, state, right)
    since = reach_of(policy.rules, state).since
    if right not in since:
        raise NeverComes("this right never comes up")
    return since[right]


def last_round(policy, state):
    """The number of the last round in which anything comes up, also on made things."""
    check_case(policy, state)
    return reach_of(policy.rules, state).last


def at_once(policy, state, number):
    """The ascending list of the rights between the parties that are there behind so many rounds."""
    check_case(policy, state)
    if not is_integer(number) or number < 0:
        raise BadNumber("this is no number of rounds")
    reach = reach_of(policy.rules, state)
    return [right for right in reach.between_parties() if reach.since[right] <= number]
