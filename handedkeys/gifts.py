"""With which rights more a right can come up."""

from handedkeys.adding import Ground, absent_rights, bringing, least_added, words_with
from handedkeys.checks import check_most, check_question, check_rights
from handedkeys.errors import TooLarge

MOST_TOGETHER = 2
MOST_ABSENT = 60


def gifts_of(policy, state, right):
    """The ascending list of the rights that could be given, with the words of all three."""
    words = sorted(set(words_with(policy, state) + [right[1]]))
    rights = absent_rights(state, words)
    if len(rights) > MOST_ABSENT:
        raise TooLarge("too many rights are not there")
    return rights


def least_gifts(policy, state, right, most=1):
    """The list of the least sets of rights that are not there, with which a right can come up."""
    check_question(policy, state, right)
    check_most(most, MOST_TOGETHER)
    ground = Ground(policy.rules, state, [right])
    if ground.has(right):
        return [()]
    if most == 0:
        return []
    return least_added(ground, gifts_of(policy, state, right), right, most)


def gifts_but(policy, state, right, promises):
    """The ascending list of the rights with which alone a right can come up, while no promised one can."""
    check_question(policy, state, right)
    check_rights(state, promises)
    rights = gifts_of(policy, state, right)
    ground = Ground(policy.rules, state, [right] + list(promises))
    harmful = {one: True for one in bringing(ground, rights, promises)}
    return [one for one in bringing(ground, rights, [right]) if one not in harmful]
