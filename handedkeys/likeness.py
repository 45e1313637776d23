"""Parties that are alike, and what can be kept from ever coming up."""

from handedkeys.adding import Ground, absent_rights, bringing, words_with
from handedkeys.checks import check_case, check_plain_state, check_rights
from handedkeys.errors import BadParty, BadRight, TooLarge
from handedkeys.forms import is_word
from handedkeys.reaching import reach_of

MOST_ALIKE = 7
MOST_ADDED_TO = 6


def check_alike_size(state):
    """Refuse a state of more parties than can be sent to one another in all ways."""
    if len(state.people + state.things) > MOST_ALIKE:
        raise TooLarge("the state has too many parties")


def maps_of(state):
    """The list of all likenesses of a state, ascending."""
    parties = state.parties()
    people = {name: True for name in state.people}
    words = {}
    for one, word, other in state.rights:
        words.setdefault((one, other), []).append(word)
    layer = [[]]
    for name in parties:
        layer = [images + [image] for images in layer for image in parties if image not in images
                 and (name in people) == (image in people) and are_as_tied(words, parties, images, name, image)]
    return [dict(zip(parties, images)) for images in layer]


def are_as_tied(words, parties, images, name, image):
    """Whether a party and those ahead of it, itself too, have the same words on one another as their images."""
    pairs = list(zip(parties, images)) + [(name, image)]
    return all([words.get((name, one)) == words.get((image, other))
                and words.get((one, name)) == words.get((other, image)) for one, other in pairs])


def likenesses(state):
    """The list of all maps of the parties onto themselves that send the state to itself."""
    check_plain_state(state)
    check_alike_size(state)
    return maps_of(state)


def alike(state, one, other):
    """Whether a likeness sends a party to another one."""
    check_plain_state(state)
    parties = state.parties()
    for name in (one, other):
        if name not in parties:
            raise BadParty(name)
    check_alike_size(state)
    return any([sent[one] == other for sent in maps_of(state)])


def classes(state):
    """The ascending list of the ascending lists of parties that are alike."""
    check_plain_state(state)
    check_alike_size(state)
    maps = maps_of(state)
    orbits = {name: sorted(set([sent[name] for sent in maps])) for name in state.parties()}
    return [orbit for name, orbit in orbits.items() if orbit[0] == name]


def check_word(word):
    """Refuse what is no word."""
    if not is_word(word):
        raise BadRight("this is no word")


def wall(policy, state, word, party):
    """The ascending list of the parties that can ever have a word on a party."""
    check_case(policy, state)
    check_word(word)
    parties = state.parties()
    if party not in parties:
        raise BadParty(party)
    since = reach_of(policy.rules, state).since
    return [one for one in parties if (one, word, party) in since]


def rooms(policy, state, word):
    """A dict from all parties, ascending, to the lists of those on which each can ever have a word."""
    check_case(policy, state)
    check_word(word)
    parties = state.parties()
    since = reach_of(policy.rules, state).since
    return {one: [other for other in parties if (one, word, other) in since] for one in parties}


def keeps(policy, state, promises):
    """The ascending list of the promised rights that can come up all the same."""
    check_case(policy, state)
    check_rights(state, promises)
    since = reach_of(policy.rules, state).since
    return sorted(set([right for right in promises if right in since]))


def can_be_added(policy, state, promises):
    """The ascending list of the rights that can be added alone without a promised one ever coming up."""
    check_case(policy, state)
    if len(state.people + state.things) > MOST_ADDED_TO:
        raise TooLarge("the state has too many parties")
    check_rights(state, promises)
    rights = absent_rights(state, words_with(policy, state))
    ground = Ground(policy.rules, state, promises)
    harmful = {right: True for right in bringing(ground, rights, promises)}
    return [right for right in rights if right not in harmful]
