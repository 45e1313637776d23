"""A state that deeds change, one behind the other."""

from handedkeys.rules import asked_for, brought_by, has_form, is_drop, is_make
from handedkeys.states import State


class Board:
    """The parties and rights as they are behind some deeds.

    The rights are kept in a dict, so that a deed takes few steps, however many there are.
    """

    def __init__(self, rules, state):
        self.rules = rules
        self.things = list(state.things)
        self.actors = {name: True for name in state.people}
        self.taken = {name: True for name in state.people + state.things}
        self.held = {right: True for right in state.rights}

    def allows(self, deed):
        """Whether a value is a deed that can be done now."""
        if not has_form(self.rules, deed) or deed[1] not in self.actors:
            return False
        if is_make(self.rules, deed):
            return deed[2] not in self.taken
        return all([right in self.held for right in asked_for(self.rules, deed)])

    def carry_out(self, deed):
        """Do a deed that can be done."""
        if is_drop(deed):
            del self.held[deed[1:]]
        elif is_make(self.rules, deed):
            self.things.append(deed[2])
            self.taken[deed[2]] = True
        for right in brought_by(self.rules, deed):
            self.held[right] = True

    def first_refused(self, deeds):
        """Do deeds up to the first that cannot be done; its place, None if all are done."""
        for place, deed in enumerate(deeds):
            if not self.allows(deed):
                return place
            self.carry_out(deed)
        return None

    def as_state(self):
        """The state as it is now."""
        return State(list(self.actors), self.things, list(self.held))


def leads_to(rules, state, deeds, right):
    """Whether deeds can be done, one behind the other, and a right is there then."""
    board = Board(rules, state)
    return board.first_refused(deeds) is None and right in board.held
