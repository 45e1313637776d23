"""Frames: roles with any number of members, judged for all numbers."""

from handedkeys.checks import check_policy
from handedkeys.closing import Can, Never, all_that_come, judge_can
from handedkeys.errors import BadFrame, BadNumber, BadRight
from handedkeys.forms import are_rights, are_words, as_rows, is_integer, is_right
from handedkeys.states import State

LONGEST_ROLE = 6
MOST_ROLES = 6
MOST_MEMBERS = 9
MEMBERS = "abcdefghi"


class Frame:
    """Roles of people and of things, and the rights between all members of them."""

    def __init__(self, people, things, rights=()):
        if not are_words(people, LONGEST_ROLE):
            raise BadFrame("people")
        if not are_words(things, LONGEST_ROLE) or any([role in people for role in things]):
            raise BadFrame("things")
        if not 1 <= len(people) + len(things) <= MOST_ROLES:
            raise BadFrame("things")
        if not are_rights(rights, list(people) + list(things)):
            raise BadFrame("rights")
        self.people = sorted(people)
        self.things = sorted(things)
        self.rights = sorted(set(rights))

    def roles(self):
        """The ascending list of all roles."""
        return sorted(self.people + self.things)

    def members(self, role, many=1):
        """The list of the names of the first so many members of a role."""
        if role not in self.roles():
            raise BadFrame(role)
        if not is_integer(many) or not 1 <= many <= MOST_MEMBERS:
            raise BadNumber("a role has from one to nine members")
        return [role + "z" + letter for letter in MEMBERS[:many]]

    def state(self, numbers=()):
        """The state with so many members of the roles that a dict tells, of others one."""
        roles = self.roles()
        told = {} if numbers == () else numbers
        if not isinstance(told, dict) or not all([role in roles for role in told]):
            raise BadNumber("this is no dict from roles to numbers of members")
        members = {role: self.members(role, told.get(role, 1)) for role in roles}
        people = [name for role in self.people for name in members[role]]
        things = [name for role in self.things for name in members[role]]
        return State(people, things, [(name, word, target) for one, word, other in self.rights
                                      for name in members[one] for target in members[other]])

    def __len__(self):
        return len(self.people + self.things)

    def __eq__(self, other):
        return (isinstance(other, Frame) and self.people == other.people
                and self.things == other.things and self.rights == other.rights)


class Ever:
    """Deeds of members that lead to a right of a member."""

    def __init__(self, deeds):
        self.deeds = as_rows(deeds)

    def shows(self, policy, frame, right, *, is_other=False):
        """Whether the deeds lead to the right, where each role has one member, or as is_other tells."""
        check_frame_question(policy, frame, right, is_other)
        state, between = first_case(frame, right, is_other)
        return Can(self.deeds).shows(policy, state, between)

    def __bool__(self):
        return True

    def __eq__(self, other):
        return isinstance(other, Ever) and as_rows(self.deeds) == as_rows(other.deeds)


class NoNumber:
    """A list of rights between members that no deed leaves, and in which a right is not."""

    def __init__(self, rights):
        self.rights = as_rows(rights)

    def shows(self, policy, frame, right, *, is_other=False):
        """Whether the rights bar the right, where each role has one member, or as is_other tells."""
        check_frame_question(policy, frame, right, is_other)
        state, between = first_case(frame, right, is_other)
        return Never(self.rights).shows(policy, state, between)

    def __bool__(self):
        return False

    def __eq__(self, other):
        return isinstance(other, NoNumber) and as_rows(self.rights) == as_rows(other.rights)


def check_frame(policy, frame):
    """Refuse what is no policy, or no frame."""
    check_policy(policy)
    if not isinstance(frame, Frame):
        raise BadFrame(None)


def check_frame_question(policy, frame, right, is_other):
    """Refuse also what is no Boolean, and no right between roles that fits it."""
    check_frame(policy, frame)
    if not isinstance(is_other, bool):
        raise BadRight("is_other is a Boolean")
    if not is_right(right, frame.roles()) or is_other and right[0] != right[2]:
        raise BadRight("this is no such right between roles")


def role_of(name):
    """The role of a member, by its name."""
    return name[:-2]


def first_case(frame, right, is_other):
    """The state that is enough for all numbers, and the right between its first members."""
    one, word, other = right
    many = 2 if is_other else 1
    between = (frame.members(one)[0], word, frame.members(other, many)[-1])
    return frame.state({one: many}), between


def judge_frame(policy, frame, right, *, is_other=False):
    """An Ever, if a member can get the right, whatever the numbers of members, otherwise a NoNumber."""
    check_frame_question(policy, frame, right, is_other)
    state, between = first_case(frame, right, is_other)
    found = judge_can(policy, state, between)
    if isinstance(found, Can):
        return Ever(found.deeds)
    return NoNumber(found.rights)


def frame_rights(policy, frame):
    """The ascending list of all rights of roles that can come up, each with is_other behind it."""
    check_frame(policy, frame)
    come = all_that_come(policy, frame.state())
    found = [(role_of(one), word, role_of(other), False) for one, word, other in come]
    for role in frame.roles():
        first, second = frame.members(role, 2)
        come = all_that_come(policy, frame.state({role: 2}))
        found.extend([(role, word, role, True) for one, word, other in come if one == first and other == second])
    return sorted(found)


def closed_frame(policy, frame):
    """The frame with all rights that each member of a role can get on each of another, or of its own."""
    found = {right: True for right in frame_rights(policy, frame)}
    rights = [(one, word, other) for one, word, other, is_other in found
              if not is_other and (one != other or (one, word, other, True) in found)]
    return Frame(frame.people, frame.things, rights)
