"""Why a right can come up, and for whom it cannot."""

from handedkeys.checks import check_case, check_people, check_question
from handedkeys.errors import NeverComes
from handedkeys.forms import as_rows, is_place
from handedkeys.reaching import Reach, reach_of
from handedkeys.rules import asked_for, brought_by
from handedkeys.webs import Web, is_helper


class Why:
    """Steps to a right, pairs of a deed and the right that it brings, each of which is used."""

    def __init__(self, steps):
        self.steps = as_rows(steps)

    def shows(self, policy, state, right):
        """Whether the steps lead to the right from what is there, and each is new and used."""
        check_question(policy, state, right)
        steps = as_rows(self.steps)
        if right in state.rights or not steps:
            return right in state.rights and not steps
        return steps[-1][1] == right and are_founded(policy.rules, state, steps) and are_used(policy.rules, steps)

    def brings(self):
        """The list of the rights that the steps bring."""
        return [right for _, right in as_rows(self.steps)]

    def actors(self):
        """The ascending list of the people who do the deeds."""
        return sorted(set([deed[1] for deed, _ in as_rows(self.steps)]))

    def makers(self):
        """The ascending list of the people whose helpers stand in the steps."""
        names = [name for deed, right in as_rows(self.steps) for name in deed[1:4] + (right[0], right[2])]
        return sorted(set([name[:-1] for name in names if is_helper(name)]))

    def __len__(self):
        return len(self.steps)

    def __bool__(self):
        return True

    def __eq__(self, other):
        return isinstance(other, Why) and as_rows(self.steps) == as_rows(other.steps)


def is_step_deed(rules, people, deed):
    """Whether a value has the form of a deed of a rule but a make, by one of the people."""
    if not is_place(deed[0], len(rules)) or deed[1] not in people:
        return False
    rule = rules[deed[0]]
    if rule[0] in ("fetch", "hand"):
        return len(deed) == 5 and deed[4] in rule[2]
    return rule[0] != "make" and len(deed) == 3


def are_founded(rules, state, steps):
    """Whether each step can be done by what is there and what those ahead bring, and brings something new."""
    web = Web(rules, state.people, state.things)
    made = web.rights_in(web.makes([web.place[name] for name in state.people]))
    there = {right: True for right in state.rights + made}
    for deed, right in steps:
        if right in there or not is_step_deed(rules, state.people, deed):
            return False
        if brought_by(rules, deed) != [right] or not all([asked in there for asked in asked_for(rules, deed)]):
            return False
        there[right] = True
    return True


def are_used(rules, steps):
    """Whether what each step but the last one brings is asked for by a later one."""
    used = {steps[-1][1]: True}
    for deed, right in steps[::-1]:
        if right not in used:
            return False
        used.update({asked: True for asked in asked_for(rules, deed)})
    return True


def why(policy, state, right):
    """A Why for a right that can come up."""
    check_question(policy, state, right)
    reach = reach_of(policy.rules, state)
    if right not in reach.since:
        raise NeverComes("this right never comes up")
    way = reach.way_to(right)
    steps = [(reach.since[one], deed, one) for one, deed in way.items() if deed is not None and not reach.is_made(one)]
    return Why([(deed, one) for _, deed, one in sorted(steps)])


def come_without(policy, state, names):
    """The ascending list of the rights between the parties that can come up without deeds of some people."""
    willing = [name for name in state.people if name not in names]
    return Reach(policy.rules, state, willing).between_parties()


def lasting(policy, state, names):
    """The ascending list of the rights between the parties that can come up without deeds of some people."""
    check_case(policy, state)
    check_people(state, names)
    return come_without(policy, state, names)


def by_them_alone(policy, state, names):
    """The ascending list of the rights between the parties that can come up, but not without some people."""
    check_case(policy, state)
    check_people(state, names)
    without = {right: True for right in come_without(policy, state, names)}
    return [right for right in reach_of(policy.rules, state).between_parties() if right not in without]
