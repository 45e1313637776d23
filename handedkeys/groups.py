"""Groups: tuples of some things out of a list, in its order."""


def is_part(less, group):
    """Whether all of one group are in another one."""
    return all([one in group for one in less])


def groups_of(ones, most):
    """The list of the groups of some things, at most so many in each, those with fewer first, then in order."""
    found = [()]
    layer = [(0, ())]
    for _ in range(most):
        layer = [(place + 1, group + (ones[place],)) for start, group in layer for place in range(start, len(ones))]
        found.extend([group for _, group in layer])
    return found


def least_groups(ones, most, ways_left):
    """The list of the least groups of some things, at most so many in each, that leave no way.

    ways_left tells the list of ways that a group leaves, perhaps not all, each the list of the things
    of which a group must have one to bar the way; None for a group that, as all greater ones, will not
    do. It is asked for few groups alone: what it told settles most of the others.
    """
    found = []
    hopeless = []
    ways = []
    for group in groups_of(ones, most):
        if any([is_part(less, group) for less in found + hopeless]):
            continue
        if not all([any([one in way for one in group]) for way in ways]):
            continue
        left = ways_left(group)
        if left is None:
            hopeless.append(group)
        elif left:
            ways.extend(left)
        else:
            found.append(group)
    return found
