"""What can come up from a state by rules, since which round, and by which deeds.

Rights are told between the parties and the helpers of a state.
"""

from handedkeys.forms import LETTERS
from handedkeys.rules import asked_for, make_number
from handedkeys.webs import Web, helper_of, is_helper


class Reach:
    """All that can come up from a state by the deeds of some of its people.

    `since` tells of each right the round in which it comes up, 0 for those that are there;
    `last` is the last round that brings anything.
    """

    def __init__(self, rules, state, people):
        web = Web(rules, state.people, state.things)
        actors = [web.place[name] for name in people]
        waves = web.spread(web.rows_of(state.rights), actors, actors)
        self.rules = rules
        self.make_number = make_number(rules)
        self.names = web.names
        self.actors = {name: True for name in people}
        self.inside = {name: True for name in state.people + state.things}
        self.last = len(waves) - 1
        self.since = {right: 0 for right in state.rights}
        for number, wave in enumerate(waves[1:], start=1):
            for right in web.rights_in(wave):
                self.since[right] = number

    def between_parties(self):
        """The ascending list of the rights between the parties that can come up."""
        return sorted([right for right in self.since if right[0] in self.inside and right[2] in self.inside])

    def is_made(self, right):
        """Whether a right is one that a person gets by making a thing."""
        one, word, other = right
        return other == helper_of(one) and word in self.rules[self.make_number][1]

    def deeds_for(self, right, before):
        """The list of the deeds, no makes, that bring a right by what is there before a round."""
        one, word, other = right
        since = self.since
        found = []
        for number, rule in enumerate(self.rules):
            if rule[0] == "hand":
                found.extend([(number, actor, one, other, pair) for pair in rule[2] if pair[1] == word
                              for actor in self.actors if since.get((actor, rule[1], one), before) < before])
            elif rule[0] == "make" or one not in self.actors:
                continue
            elif rule[0] == "fetch":
                found.extend([(number, one, name, other, pair) for pair in rule[2] if pair[1] == word
                              for name in self.names if since.get((one, rule[1], name), before) < before])
            elif rule[-1] == word:
                found.append((number, one, other))
        return [deed for deed in found if self.is_ready(deed, before)]

    def is_ready(self, deed, before):
        """Whether all that a deed asks for is there before a round."""
        return all([self.since.get(right, before) < before for right in asked_for(self.rules, deed)])

    def deed_for(self, right):
        """A deed that brings a right in the round in which it comes up."""
        if self.is_made(right):
            return (self.make_number, right[0], right[2])
        return self.deeds_for(right, self.since[right])[0]

    def way_to(self, goal):
        """A dict from a right that can come up, and all that deeds for it ask for, to these deeds.

        None stands in the place of a deed for what is there at the beginning.
        """
        way = {}
        ahead = [goal]
        while ahead:
            right = ahead.pop()
            if right in way:
                continue
            way[right] = None if self.since[right] == 0 else self.deed_for(right)
            if way[right] is not None:
                ahead.extend(asked_for(self.rules, way[right]))
        return way

    def deeds_to(self, goal):
        """Deeds that lead to a right that can come up, helpers in them as names of made things."""
        steps = {(self.since[right], deed): True for right, deed in self.way_to(goal).items() if deed is not None}
        return with_names([deed for _, deed in sorted(steps)], self.inside)


def grounds_of(way):
    """The list of the rights of a way that are there at the beginning."""
    return [right for right, deed in way.items() if deed is None]


def reach_of(rules, state):
    """All that can come up from a state by the deeds of all people."""
    return Reach(rules, state, state.people)


def with_names(deeds, parties):
    """Deeds with words that are no parties in the place of the helpers, one for each."""
    standing = sorted(set([name for deed in deeds for name in deed[1:4] if is_helper(name)]))
    words = dict(zip(standing, free_words(parties, len(standing))))
    return [tuple([words.get(part, part) for part in deed]) for deed in deeds]


def free_words(taken, many):
    """So many words that are not taken, the shorter ones first."""
    words = []
    layer = [""]
    while len(words) < many:
        layer = [start + letter for start in layer for letter in LETTERS]
        words.extend([word for word in layer if word not in taken])
    return words[:many]
