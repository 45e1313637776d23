"""What comes up in a state if rights are added to it."""

from handedkeys.tracing import Trace
from handedkeys.webs import Web, everything


class Ground:
    """All that can come up from a state, as rows to which rights can be added.

    The words of some more rights have rows, too, so that these can be added and asked for.
    """

    def __init__(self, rules, state, rights):
        self.rules = rules
        self.web = Web(rules, state.people, state.things, [right[1] for right in state.rights + list(rights)])
        self.actors = [self.web.place[name] for name in state.people]
        self.rows = self.web.rows_of(state.rights)
        self.web.spread(self.rows, self.actors, self.actors)

    def has(self, right):
        """Whether a right can come up with nothing added."""
        return self.web.has(self.rows, right)

    def with_more(self, rows, rights):
        """New rows, of rights more than in some rows, and of all that comes up then."""
        return self.web.grown(rows, rights, self.actors, {})

    def on_ways(self, come, rights, goals):
        """The list of those of some rights on which a way to one of some goals goes, by rows of all that comes up."""
        ways = Trace(self.rules, self.web, self.actors, come).ways_to(goals)
        return [right for right in rights if self.web.has(ways, right)]


def absent_rights(state, words):
    """The ascending list of the rights with some words between the parties that are not there."""
    held = {right: True for right in state.rights}
    parties = state.parties()
    return [(one, word, other) for one in parties for word in words for other in parties
            if (one, word, other) not in held]


def words_with(policy, state):
    """The ascending list of the words of a policy and of a state."""
    return sorted(set(policy.words() + [right[1] for right in state.rights]))


def bringing(ground, rights, goals):
    """The list of those of some rights with each of which alone one of some goals comes up."""
    if any([ground.has(goal) for goal in goals]):
        return list(rights)
    useful = ground.on_ways(ground.with_more(ground.rows, rights), rights, goals)
    return bringing_beside(ground, ground.rows, useful, goals)


def bringing_beside(ground, rows, rights, goals):
    """The list of those of some rights with each of which alone, beside rows, one of some goals comes up.

    A right is not tried if it comes up beside one that brings no goal, and is not followed further
    than to one that brings a goal.
    """
    web = ground.web
    harmless = {word: list(row) for word, row in rows.items()}
    stops = everything(web.rows_of(goals))
    found = []
    for right in rights:
        if web.has(harmless, right):
            continue
        later = web.grown(rows, [right], ground.actors, stops)
        if later is None:
            found.append(right)
            key, bit = web.spot(right)
            stops[key] = stops.get(key, 0) | bit
        else:
            for word, row in later.items():
                harmless[word] = [one | other for one, other in zip(harmless[word], row)]
    return found


def least_added(ground, rights, goal, most):
    """The list of the least sets of one right, or two, with which a goal comes up that does not without.

    They are ascending tuples, if the rights ascend, single ones first, then ascending.
    """
    useful = ground.on_ways(ground.with_more(ground.rows, rights), rights, [goal])
    single = bringing_beside(ground, ground.rows, useful, [goal])
    found = [(right,) for right in single]
    if most < 2:
        return found
    alone = {right: True for right in single}
    others = [right for right in useful if right not in alone and not ground.has(right)]
    for place, first in enumerate(others):
        rows = ground.with_more(ground.rows, [first])
        pairs = bringing_beside(ground, rows, others[place + 1:], single + [goal])
        found.extend([(first, second) for second in pairs])
    return found
