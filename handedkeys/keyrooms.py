"""Rooms: a state that changes, and rights of which it is promised that they never come up."""

from handedkeys.adding import Ground, bringing
from handedkeys.checks import check_case, check_rights
from handedkeys.closing import answer_for
from handedkeys.deeds import done
from handedkeys.errors import BadRight, NothingDone
from handedkeys.policies import Policy
from handedkeys.reaching import reach_of
from handedkeys.states import State


class Trial:
    """Work on a room, of which nothing is left if an error ends it."""

    def __init__(self, room):
        self.room = room
        self.state = room.state
        self.promised = room.promised
        self.changes = room.changes

    def __enter__(self):
        self.state = self.room.state
        self.promised = self.room.promised
        self.changes = self.room.changes
        return self.room

    def __exit__(self, kind, value, trace):
        room = self.room
        if kind is not None:
            room.state = self.state
            room.promised = self.promised
            room.changes = self.changes


class Room:
    """A state, the rights that are promised never to come up in it, and the changes that can be undone.

    States, promises and changes are replaced by new ones, and never changed in their place, so that
    what was kept of them stays as it was.
    """

    MOST = 200

    def __init__(self, policy, state):
        check_case(policy, state)
        self.policy = Policy(policy.rules)
        self.state = State(state.people, state.things, state.rights)
        self.promised = []
        self.changes = []

    def do(self, deeds):
        """Do deeds, all or none."""
        return self.go_on(done(self.policy, self.state, deeds), self.promised)

    def grant(self, rights):
        """Give rights from outside, unless a promised one could come up then; whether they were given."""
        check_rights(self.state, rights)
        later = self.state + rights
        if self.promised and self.any_comes(later, self.promised):
            return False
        self.go_on(later, self.promised)
        return True

    def take_away(self, rights):
        """Take rights away from outside."""
        check_rights(self.state, rights)
        return self.go_on(self.state - rights, self.promised)

    def promise(self, rights):
        """Promise that rights never come up, unless one of them can; whether they were promised."""
        check_rights(self.state, rights)
        if len(rights) > 0 and self.any_comes(self.state, rights):
            return False
        self.go_on(self.state, sorted(set(self.promised + list(rights))))
        return True

    def release(self, rights):
        """Take promises back."""
        check_rights(self.state, rights)
        promised = {right: True for right in self.promised}
        if not all([right in promised for right in rights]):
            raise BadRight("this right is not promised")
        back = {right: True for right in rights}
        return self.go_on(self.state, [right for right in self.promised if right not in back])

    def promises(self):
        """The ascending list of the promised rights."""
        return list(self.promised)

    def evidence(self):
        """A dict from the promised rights, ascending, to what judge_can returns for them."""
        if not self.promised:
            return {}
        check_case(self.policy, self.state)
        reach = reach_of(self.policy.rules, self.state)
        return {right: answer_for(reach, right) for right in self.promised}

    def harmless(self, rights):
        """The list of those of some rights, in their order, each of which alone could be granted."""
        check_rights(self.state, rights)
        if not self.promised or len(rights) == 0:
            return list(rights)
        check_case(self.policy, self.state)
        ground = Ground(self.policy.rules, self.state, list(rights) + self.promised)
        harmful = {right: True for right in bringing(ground, sorted(set(rights)), self.promised)}
        return [right for right in rights if right not in harmful]

    def any_comes(self, state, rights):
        """Whether one of some rights can come up in a state."""
        check_case(self.policy, state)
        since = reach_of(self.policy.rules, state).since
        return any([right in since for right in rights])

    def go_on(self, state, promised):
        """Note a change, and return the room."""
        self.changes = (self.changes + [(self.state, self.promised)])[-Room.MOST:]
        self.state = state
        self.promised = promised
        return self

    def undo(self):
        """Go back to how state and promises were ahead of the last change."""
        if not self.changes:
            raise NothingDone("there is nothing to undo")
        self.state, self.promised = self.changes[-1]
        self.changes = self.changes[:-1]
        return self

    def trial(self):
        """What works on the room in a with statement, and leaves nothing of it if an error ends it."""
        return Trial(self)

    def attempt(self, work):
        """What a function returns for the room, in a trial."""
        with self.trial() as room:
            return work(room)

    def __len__(self):
        return len(self.changes)

    def __contains__(self, right):
        return right in self.state.rights
