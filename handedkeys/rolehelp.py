"""By the deeds of which roles members get rights, whatever the numbers of members."""

from handedkeys.errors import BadFrame
from handedkeys.forms import is_row
from handedkeys.frames import check_frame_question, first_case, role_of
from handedkeys.groups import groups_of, is_part
from handedkeys.helping import comes_with


def comes_by_members(policy, frame, right, is_other, roles):
    """Whether a right comes up by the deeds of the members of some roles, in the case that is enough for all."""
    state, between = first_case(frame, right, is_other)
    return comes_with(policy, state, between, [name for name in state.people if role_of(name) in roles])


def comes_by_roles(policy, frame, right, roles, *, is_other=False):
    """Whether members can get a right on members by the deeds of the members of some roles alone."""
    check_frame_question(policy, frame, right, is_other)
    if not is_row(roles):
        raise BadFrame(None)
    for role in roles:
        if role not in frame.people:
            raise BadFrame(role)
    return comes_by_members(policy, frame, right, is_other, roles)


def least_roles(policy, frame, right, *, is_other=False):
    """The list of the least sets of roles of people by whose members' deeds a right comes up."""
    check_frame_question(policy, frame, right, is_other)
    found = []
    for roles in groups_of(frame.people, len(frame.people)):
        if any([is_part(less, roles) for less in found]):
            continue
        if comes_by_members(policy, frame, right, is_other, roles):
            found.append(roles)
    return found


def needed_roles(policy, frame, right, *, is_other=False):
    """The ascending list of the roles of people without whose members' deeds a right never comes up."""
    check_frame_question(policy, frame, right, is_other)
    return [role for role in frame.people
            if not comes_by_members(policy, frame, right, is_other, [one for one in frame.people if one != role])]
