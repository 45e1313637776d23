"""As few deeds as can be that lead to a right."""

from handedkeys.boards import leads_to
from handedkeys.checks import check_question
from handedkeys.deeds import done
from handedkeys.errors import NeverComes, TooLarge
from handedkeys.forms import as_rows
from handedkeys.reaching import reach_of, with_names
from handedkeys.rules import asked_for
from handedkeys.webs import helper_of

MOST_NEW = 12


class Fewest:
    """As few deeds as can be that lead to a state with a right."""

    def __init__(self, deeds):
        self.deeds = as_rows(deeds)

    def shows(self, policy, state, right):
        """Whether the deeds lead to the right, and no fewer ones do."""
        check_question(policy, state, right)
        deeds = as_rows(self.deeds)
        if not leads_to(policy.rules, state, deeds, right):
            return False
        return len(deeds) == len(least_deeds(reach_of(policy.rules, state), right))

    def __len__(self):
        return len(self.deeds)

    def __bool__(self):
        return True

    def __eq__(self, other):
        return isinstance(other, Fewest) and as_rows(self.deeds) == as_rows(other.deeds)


def fewest_deeds(policy, state, right):
    """A Fewest for a right that can come up."""
    check_question(policy, state, right)
    reach = reach_of(policy.rules, state)
    if right not in reach.since:
        raise NeverComes("this right never comes up")
    return Fewest(least_deeds(reach, right))


def is_enough(policy, state, right, deeds):
    """Whether deeds lead to a right, and no longer do so without any one of them."""
    check_question(policy, state, right)
    if right not in done(policy, state, deeds):
        return False
    others = [list(deeds[:place]) + list(deeds[place + 1:]) for place in range(len(deeds))]
    return not any([leads_to(policy.rules, state, fewer, right) for fewer in others])


def least_deeds(reach, right):
    """The shortest list of deeds that lead to a right that can come up."""
    bits = new_bits(reach)
    if len(bits) > MOST_NEW:
        raise TooLarge("too much is new")
    if right not in bits:
        return []
    return with_names(shortest_way(choices(reach, bits), bits[right]), reach.inside)


def new_bits(reach):
    """A dict from each new right, and from each person who can make a thing, to a bit of its own.

    One thing for each maker is enough: whatever several ones bring, one in their place brings.
    """
    new = [right for right, number in reach.since.items() if number > 0 and not reach.is_made(right)]
    makers = [] if reach.make_number is None else list(reach.actors)
    return {one: 1 << place for place, one in enumerate(sorted(new) + makers)}


def choices(reach, bits):
    """The list of the bits, each with pairs of the bits that a deed needs and the deed that brings it."""
    found = []
    for one, bit in bits.items():
        if isinstance(one, str):
            ways = [(0, (reach.make_number, one, helper_of(one)))]
        else:
            deeds = reach.deeds_for(one, reach.last + 1)
            ways = least_needs([(needs_of(reach, bits, deed), deed) for deed in deeds])
        found.append((bit, ways))
    return found


def needs_of(reach, bits, deed):
    """The bits of all new rights, and of all makers, that a deed needs."""
    needs = 0
    for right in asked_for(reach.rules, deed):
        needs |= bits[right[0]] if reach.is_made(right) else bits.get(right, 0)
    return needs


def least_needs(ways):
    """Those of some ways that need nothing but what no other one does without."""
    least = []
    for needs, deed in sorted(ways):
        if not any([less & needs == less for less, _ in least]):
            least.append((needs, deed))
    return least


def shortest_way(steps, goal):
    """The shortest list of deeds behind which a bit is there, by going through all sets of bits."""
    ahead = {0: None}
    layer = [0]
    while layer:
        following = []
        for there in list(layer):
            for bit, ways in steps:
                ready = [deed for needs, deed in ways if needs & there == needs]
                if there | bit in ahead or not ready:
                    continue
                ahead[there | bit] = (there, ready[0])
                if bit == goal:
                    return deeds_up_to(ahead, there | bit)
                following.append(there | bit)
        layer = following
    return None


def deeds_up_to(ahead, there):
    """The deeds that led to a set of bits, by the dict of what was ahead of each set."""
    deeds = []
    while ahead[there] is not None:
        there, deed = ahead[there]
        deeds.append(deed)
    return deeds[::-1]
