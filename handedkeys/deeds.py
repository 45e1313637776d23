"""Deeds: which can be done, what they lead to, and which bring something new."""

from handedkeys.boards import Board
from handedkeys.checks import check_state
from handedkeys.errors import BadDeed
from handedkeys.forms import is_row
from handedkeys.rules import brought_by


def can(policy, state, deed):
    """Whether a value is a deed of the policy that can be done in the state."""
    check_state(policy, state)
    return Board(policy.rules, state).allows(deed)


def done(policy, state, deeds):
    """The state behind deeds, one behind the other."""
    check_state(policy, state)
    if not is_row(deeds):
        raise BadDeed(None)
    board = Board(policy.rules, state)
    place = board.first_refused(deeds)
    if place is not None:
        raise BadDeed(place)
    return board.as_state()


def deeds_now(policy, state):
    """Generate the deeds, no makes and no drops, that bring a right that is not there."""
    check_state(policy, state)
    held = {right: True for right in state.rights}
    targets = targets_by_word(state)
    for number, rule in enumerate(policy.rules):
        deeds = []
        for actor in state.people:
            deeds.extend(deeds_by_rule(number, rule, actor, targets))
        for deed in sorted(deeds):
            if brought_by(policy.rules, deed)[0] not in held:
                yield deed


def targets_by_word(state):
    """A dict from a party and a word to the parties on which it has the word."""
    targets = {}
    for one, word, other in state.rights:
        targets.setdefault((one, word), []).append(other)
    return targets


def deeds_by_rule(number, rule, actor, targets):
    """The list of all deeds of one person by a rule, but by a make, that can be done."""
    kind = rule[0]
    if kind == "make":
        return []
    near = targets.get((actor, rule[1]), [])
    if kind in ("fetch", "hand"):
        return [(number, actor, other, far, pair) for other in near for pair in rule[2]
                for far in targets.get((other if kind == "fetch" else actor, pair[0]), [])]
    if kind == "meet":
        both = targets.get((actor, rule[2]), [])
        return [(number, actor, other) for other in near if other in both]
    return [(number, actor, other) for other in near]
