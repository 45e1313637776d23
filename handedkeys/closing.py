"""Whether a right can ever come up: deeds that lead to it, or a closed list that bars it."""

from handedkeys.boards import leads_to
from handedkeys.checks import check_case, check_question
from handedkeys.deeds import done
from handedkeys.forms import as_rows, is_right
from handedkeys.reaching import reach_of
from handedkeys.webs import Web, everything


class Can:
    """Deeds that lead to a state with a right."""

    def __init__(self, deeds):
        self.deeds = as_rows(deeds)

    def shows(self, policy, state, right):
        """Whether the deeds can be done in the state, and lead to one with the right."""
        check_question(policy, state, right)
        return leads_to(policy.rules, state, as_rows(self.deeds), right)

    def __bool__(self):
        return True

    def __eq__(self, other):
        return isinstance(other, Can) and as_rows(self.deeds) == as_rows(other.deeds)


class Never:
    """A list of rights that no deed leaves, and in which a right is not."""

    def __init__(self, rights):
        self.rights = as_rows(rights)

    def shows(self, policy, state, right):
        """Whether all is among the rights that they need to bar the right, and it is not."""
        check_question(policy, state, right)
        rights = as_rows(self.rights)
        return right not in rights and is_closed(policy.rules, state, rights)

    def __bool__(self):
        return False

    def __eq__(self, other):
        return isinstance(other, Never) and as_rows(self.rights) == as_rows(other.rights)


def is_closed(rules, state, rights):
    """Whether rights hold those of a state and of its helpers, and all that deeds bring by them."""
    web = Web(rules, state.people, state.things)
    if not all([is_right(right, web.place) for right in rights]):
        return False
    actors = [web.place[name] for name in state.people]
    there = {right: True for right in rights}
    needed = state.rights + web.rights_in(web.makes(actors))
    if not all([right in there for right in needed]):
        return False
    rows = web.rows_of(rights)
    return len(web.consequences(rows, everything(rows), actors)) == 0


def answer_for(reach, right):
    """A Can, if a right is among all that can come up, otherwise a Never."""
    if right in reach.since:
        return Can(reach.deeds_to(right))
    return Never(sorted(reach.since))


def judge_can(policy, state, right):
    """A Can, if a right can come up, otherwise a Never."""
    check_question(policy, state, right)
    return answer_for(reach_of(policy.rules, state), right)


def can_come(policy, state, right):
    """Whether a right can come up."""
    check_question(policy, state, right)
    return right in reach_of(policy.rules, state).since


def all_that_come(policy, state):
    """The ascending list of all rights between the parties that can come up."""
    check_case(policy, state)
    return reach_of(policy.rules, state).between_parties()


def behind_all(policy, state, deeds):
    """The ascending list of the rights between the parties that can still come up behind deeds."""
    check_case(policy, state)
    later = reach_of(policy.rules, done(policy, state, deeds))
    parties = {name: True for name in state.people + state.things}
    return [right for right in later.between_parties() if right[0] in parties and right[2] in parties]
