"""What two states with the same parties have in common, and what of a state is enough for it."""

from handedkeys.adding import Ground
from handedkeys.checks import check_case, check_size, check_state
from handedkeys.cutting import idle_rights
from handedkeys.errors import BadState, TooLarge
from handedkeys.groups import groups_of, is_part
from handedkeys.reaching import reach_of
from handedkeys.states import State

MOST_CHOSEN = 10


def check_states(policy, one, other):
    """Refuse what is no policy, no two states, and states of other parties."""
    check_state(policy, one)
    check_state(policy, other)
    check_size(one)
    check_size(other)
    if one.people != other.people:
        raise BadState("people")
    if one.things != other.things:
        raise BadState("things")


def come_all(policy, state, rights):
    """Whether all of some rights can come up in a state."""
    since = reach_of(policy.rules, state).since
    return all([right in since for right in rights])


def compared_states(policy, one, other):
    """Whether the same can come up in a state as in another one, more, less, or neither."""
    check_states(policy, one, other)
    has_all = come_all(policy, one, other.rights)
    is_had = come_all(policy, other, one.rights)
    if has_all and is_had:
        return "same"
    if has_all:
        return "more"
    return "less" if is_had else "unlike"


def lean_state(policy, state):
    """The state without the rights that come up again, taken out one by one from the last one on."""
    check_case(policy, state)
    bare = State(state.people, state.things)
    ground = Ground(policy.rules, bare, state.rights)
    return bare + kept_beside(ground, ground.rows, state.rights)


def kept_beside(ground, rows, rights):
    """The list of those of some rights that stay, if from the last on each is taken out that comes up again.

    It comes up by what is left of them, and by rows of what comes up beside them. What comes up by these
    alone is taken out at once; of the rest the later half is settled first, with the earlier one beside it.
    """
    left = [right for right in rights if not ground.web.has(rows, right)]
    if len(left) < 2:
        return left
    half = len(left) // 2
    later = kept_beside(ground, ground.with_more(rows, left[:half]), left[half:])
    return kept_beside(ground, ground.with_more(rows, later), left[:half]) + later


def least_states(policy, state):
    """The list of the least sets of rights of a state from which all of them can come up."""
    check_case(policy, state)
    if len(state.rights) > MOST_CHOSEN:
        raise TooLarge("the state has too many rights")
    idle = idle_rights(policy, state)
    ground = Ground(policy.rules, state - idle, idle)
    needed = [right for right in state.rights if right not in idle]
    return [tuple(sorted(needed + list(group))) for group in enough_groups(ground, idle)]


def enough_groups(ground, rights):
    """The list of the least groups of some rights with which all of them come up.

    What comes up with a group that is not enough is kept: no group in it is enough, either.
    """
    found = []
    closed = []
    for group in groups_of(rights, len(rights)):
        if any([is_part(less, group) for less in found]) or any([is_part(group, come) for come in closed]):
            continue
        rows = ground.with_more(ground.rows, group)
        come = [right for right in rights if ground.web.has(rows, right)]
        if len(come) == len(rights):
            found.append(group)
        else:
            closed.append(come)
    return found


def common_rights(policy, one, other):
    """The ascending list of the rights between the parties that can come up in both states."""
    check_states(policy, one, other)
    since = reach_of(policy.rules, other).since
    return [right for right in reach_of(policy.rules, one).between_parties() if right in since]


def united(policy, one, other):
    """The ascending list of the rights that can come up with the rights of both states, and in neither alone."""
    check_states(policy, one, other)
    first = reach_of(policy.rules, one).since
    second = reach_of(policy.rules, other).since
    both = reach_of(policy.rules, one + other.rights).between_parties()
    return [right for right in both if right not in first and right not in second]
