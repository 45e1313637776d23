"""Plans of which some names stand for any parties."""

from handedkeys.checks import check_plain_state, check_plan
from handedkeys.errors import BadParty, BadPolicy, TooLarge
from handedkeys.forms import LETTERS, are_words, is_row, is_word
from handedkeys.plans import copied_state, differ_in, plan_effect, state_apart
from handedkeys.policies import Policy
from handedkeys.reaching import free_words
from handedkeys.rules import is_drop

MOST_NAMES = 5
MOST_WAYS = 2000


class Template:
    """A plan of a policy, and those names that stand for any parties."""

    def __init__(self, policy, names, plan):
        check_plan(policy, plan)
        if not are_words(names):
            raise BadParty(None)
        if len(names) > MOST_NAMES:
            raise TooLarge("the template has too many names")
        self.policy = Policy(policy.rules)
        self.names = list(names)
        self.plan = list(plan)

    def fill(self, parties):
        """The plan with words in the place of the names."""
        check_fill(self, parties)
        return filled(self, parties)

    def fixed(self):
        """The ascending list of the other names in the plan."""
        return sorted(set([name for deed in self.plan for name in names_in(deed) if name not in self.names]))

    def __eq__(self, other):
        return (isinstance(other, Template) and self.policy == other.policy
                and self.names == other.names and self.plan == other.plan)


class AlwaysSame:
    """The number of the ways to fill in two templates, in all of which they do the same."""

    def __init__(self, number):
        self.number = number

    def shows(self, one, other):
        """Whether there are so many ways, and the plans do the same in all of them."""
        found = ways(one, other)
        return self.number == len(found) and first_unlike(one, other, found) is None

    def __bool__(self):
        return True

    def __eq__(self, other):
        return isinstance(other, AlwaysSame) and self.number == other.number


class SometimesOther:
    """Words with which two templates do not do the same, and a state in which they do not."""

    def __init__(self, parties, state):
        self.parties = list(parties)
        self.state = copied_state(state)

    def shows(self, one, other):
        """Whether the plans with these words do not do the same in the state."""
        ways(one, other)
        if len(self.parties) != len(one.names):
            return False
        check_fill(one, self.parties)
        check_plain_state(self.state)
        first, second = filled_effects(one, other, self.parties)
        return differ_in(first, second, self.state)

    def __bool__(self):
        return False

    def __eq__(self, other):
        return (isinstance(other, SometimesOther) and list(self.parties) == list(other.parties)
                and self.state == other.state)


def names_in(deed):
    """The names of parties in a deed."""
    return (deed[1], deed[3]) if is_drop(deed) else deed[1:4]


def check_fill(template, parties):
    """Refuse what is no list or tuple of as many words as there are names."""
    if not is_row(parties) or len(parties) != len(template.names):
        raise BadParty(None)
    for name in parties:
        if not is_word(name):
            raise BadParty(name)


def filled_deed(deed, words):
    """A deed with words in the place of the names that a dict has."""
    if is_drop(deed):
        return ("drop", words.get(deed[1], deed[1]), deed[2], words.get(deed[3], deed[3]))
    return deed[:1] + tuple([words.get(name, name) for name in deed[1:4]]) + deed[4:]


def filled(template, parties):
    """The plan of a template with words in the place of the names."""
    words = dict(zip(template.names, parties))
    return [filled_deed(deed, words) for deed in template.plan]


def filled_effects(one, other, parties):
    """The effects of the plans of two templates with words in the place of the names."""
    first = plan_effect(one.policy, filled(one, parties))
    return first, plan_effect(other.policy, filled(other, parties))


def check_templates(templates):
    """Refuse what are no templates of one policy, with the same names."""
    if len(templates) == 0 or not all([isinstance(template, Template) for template in templates]):
        raise BadPolicy(None)
    first = templates[0]
    if not all([template.policy == first.policy for template in templates]):
        raise BadPolicy(None)
    if not all([template.names == first.names for template in templates]):
        raise BadParty(None)


def words_for_next(fixed, way):
    """The list of the words for the next name behind a way: fixed ones, those ahead, and a new one.

    The new one is of two letters, or, if all of these are taken, any other one.
    """
    ahead = []
    for name in way:
        if name not in fixed and name not in ahead:
            ahead.append(name)
    for first in LETTERS:
        for second in LETTERS:
            if first + second not in fixed and first + second not in ahead:
                return list(fixed) + ahead + [first + second]
    return list(fixed) + ahead + free_words(list(fixed) + ahead, 1)


def ways(*templates):
    """The list of the tuples of words for the names, one for each way in which these can fall together."""
    check_templates(templates)
    others = [name for template in templates for name in template.fixed()]
    fixed = {name: True for name in sorted(others)}
    found = [()]
    for _ in templates[0].names:
        choices = [(way, words_for_next(fixed, way)) for way in found]
        if sum([len(words) for _, words in choices]) > MOST_WAYS:
            raise TooLarge("there are too many ways")
        found = [way + (word,) for way, words in choices for word in words]
    return found


def first_unlike(one, other, found):
    """The first of some ways in which two templates do not do the same, and the effects then; None without one."""
    for way in found:
        first, second = filled_effects(one, other, way)
        if first != second:
            return way, first, second
    return None


def judge_templates(one, other):
    """An AlwaysSame, if two templates do the same, otherwise a SometimesOther."""
    found = ways(one, other)
    unlike = first_unlike(one, other, found)
    if unlike is None:
        return AlwaysSame(len(found))
    way, first, second = unlike
    return SometimesOther(way, state_apart(first, second))
