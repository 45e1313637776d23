"""Which words a person with some words on a thing can get on it."""

from handedkeys.adding import Ground, least_added
from handedkeys.checks import check_policy
from handedkeys.errors import BadPolicy
from handedkeys.forms import is_row, is_word
from handedkeys.states import State

PERSON = "ann"
THING = "box"
MOST_TOGETHER = 2


def right_of(word):
    """The right of the person to have a word on the thing."""
    return (PERSON, word, THING)


def check_words(words):
    """Refuse the first of some values that is no word."""
    for word in words:
        if not is_word(word):
            raise BadPolicy(word)


def bare_ground(policy, words):
    """All that can come up where the person has no word on the thing, words told that may be added."""
    return Ground(policy.rules, State([PERSON], [THING]), [right_of(word) for word in words])


def got_by(ground, words):
    """The ascending list of the words that the person can get who has some words on the thing."""
    rows = ground.with_more(ground.rows, [right_of(word) for word in words])
    return [word for word in ground.web.terms if ground.web.has(rows, right_of(word))]


def all_worths(policy):
    """A dict from each word of a policy to a dict of the words that it is worth."""
    ground = bare_ground(policy, [])
    return {word: {got: True for got in got_by(ground, [word])} for word in policy.words()}


def worth(policy, word):
    """The ascending list of the words that a word is worth, itself among them."""
    check_policy(policy)
    check_words([word])
    return got_by(bare_ground(policy, [word]), [word])


def is_worth(policy, one, other):
    """Whether a word is worth another one."""
    check_policy(policy)
    check_words([one, other])
    return other in got_by(bare_ground(policy, [one]), [one])


def together(policy, words):
    """The ascending list of the words that a person can get who has some words on a thing."""
    check_policy(policy)
    if not is_row(words) or not all([is_word(word) for word in words]):
        raise BadPolicy(None)
    return got_by(bare_ground(policy, words), words)


def same_words(policy):
    """The ascending list of the ascending lists of words of a policy that are worth one another."""
    check_policy(policy)
    worths = all_worths(policy)
    alike = {word: [other for other in worths if other in worths[word] and word in worths[other]] for word in worths}
    return [words for word, words in alike.items() if words[0] == word]


def strongest(policy):
    """The ascending list of the words of a policy that are worth every word of it that is worth them."""
    check_policy(policy)
    worths = all_worths(policy)
    return [word for word in worths if all([other in worths[word] for other in worths if word in worths[other]])]


def least_words(policy, word):
    """The list of the least sets of one or two words of a policy that together are worth a word."""
    check_policy(policy)
    check_words([word])
    ground = bare_ground(policy, [word])
    rights = [right_of(one) for one in policy.words()]
    found = least_added(ground, rights, right_of(word), MOST_TOGETHER)
    return [tuple([one for _, one, _ in group]) for group in found]
