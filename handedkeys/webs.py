"""All rights between parties and helpers, spread by rules round by round, as rows of bits."""

from handedkeys.rules import made_words, rule_words


def helper_of(name):
    """The helper of a person, which stands for all things that the person makes."""
    return name + "+"


def is_helper(name):
    """Whether a name is that of a helper; words have small letters alone."""
    return name.endswith("+")


def helpers(rules, people):
    """The list of the helpers of people; none without a make."""
    return [] if made_words(rules) is None else [helper_of(name) for name in people]


def bit_places(mask):
    """The ascending list of the places of the bits of a number."""
    places = []
    while mask:
        low = mask & -mask
        places.append(low.bit_length() - 1)
        mask = mask ^ low
    return places


class Web:
    """Rules over the numbered parties and helpers of a state.

    The rights stand in rows, for each word of the rules a list of numbers: bit k of
    rows[word][one] is set, if party one has the word on party k. Other words never spread,
    and have rows only if they are given, too. People are numbered first, in their order, and
    helpers last.
    """

    def __init__(self, rules, people, things, words=()):
        self.names = people + things + helpers(rules, people)
        self.place = {name: at for at, name in enumerate(self.names)}
        self.gift = made_words(rules)
        self.terms = sorted(set(rule_words(rules) + list(words)))
        self.fetch_by = {word: [] for word in self.terms}
        self.fetch_of = {word: [] for word in self.terms}
        self.hand_by = {word: [] for word in self.terms}
        self.hand_of = {word: [] for word in self.terms}
        self.lifts = {word: [] for word in self.terms}
        self.meets = {word: [] for word in self.terms}
        for rule in rules:
            self._tie(rule)

    def _tie(self, rule):
        """Note at each word that a rule asks for what the rule brings by it."""
        kind = rule[0]
        if kind == "raise":
            self.lifts[rule[1]].append(rule[2])
        elif kind == "meet":
            self.meets[rule[1]].append((rule[2], rule[3]))
            self.meets[rule[2]].append((rule[1], rule[3]))
        elif kind == "fetch":
            for source, target in rule[2]:
                self.fetch_by[rule[1]].append((source, target))
                self.fetch_of[source].append((rule[1], target))
        elif kind == "hand":
            for source, target in rule[2]:
                self.hand_by[rule[1]].append((source, target))
                self.hand_of[source].append((rule[1], target))

    def rows_of(self, rights):
        """The rows of rights between parties and helpers."""
        rows = {word: [0] * len(self.names) for word in self.terms}
        for one, word, other in rights:
            if word in rows:
                rows[word][self.place[one]] |= 1 << self.place[other]
        return rows

    def spot(self, right):
        """The word and the party in whose row a right stands, and its bit there."""
        one, word, other = right
        return (word, self.place[one]), 1 << self.place[other]

    def has(self, rows, right):
        """Whether a right with a word of the rules is in some rows."""
        (word, one), bit = self.spot(right)
        return rows[word][one] & bit != 0

    def rights_in(self, wave):
        """The list of the rights that a wave has."""
        return [(self.names[one], word, self.names[other])
                for (word, one), mask in wave.items() for other in bit_places(mask)]

    def makes(self, actors):
        """The wave of what people get on the things that they make."""
        if self.gift is None:
            return {}
        return {(word, one): 1 << self.place[helper_of(self.names[one])] for one in actors for word in self.gift}

    def spread(self, rows, actors, waking):
        """Do all deeds of some people till nothing new comes, and return the waves.

        Waves are dicts from words and parties to the new bits of these rows, one for each
        round, the first one for what is there. The rows are changed. In the first round only
        those act who are waking: all, or those who are new where the others did all they can.
        """
        fresh = everything(rows)
        waves = [fresh]
        more = self.consequences(rows, fresh, waking)
        for key, mask in self.makes(waking).items():
            self.note(rows, more, key, mask)
        while more:
            put_in(rows, more)
            waves.append(more)
            more = self.consequences(rows, more, actors)
        return waves

    def grown(self, rows, rights, actors, stops):
        """New rows, of some rights more, and of all that comes of them; None if a wave of stops is met.

        All deeds that can be done by the rows that are given are done there already.
        """
        later = {word: list(row) for word, row in rows.items()}
        more = {}
        for right in rights:
            key, bit = self.spot(right)
            self.note(later, more, key, bit)
        while more:
            if any([mask & stops.get(key, 0) for key, mask in more.items()]):
                return None
            put_in(later, more)
            more = self.consequences(later, more, actors)
        return later

    def consequences(self, rows, fresh, actors):
        """The wave of what people get and give by single deeds that ask for something fresh."""
        more = {}
        acting = {one: True for one in actors}
        for (word, one), mask in fresh.items():
            if one in acting:
                self._act(rows, more, word, one, mask)
                self._hand_on(rows, more, word, one, mask)
            bit = 1 << one
            for base, target in self.fetch_of[word]:
                holders = rows[base]
                for actor in actors:
                    if holders[actor] & bit:
                        self.note(rows, more, (target, actor), mask)
        return more

    def _act(self, rows, more, word, one, mask):
        """What a person gets by having a word on fresh parties."""
        for target in self.lifts[word]:
            self.note(rows, more, (target, one), mask)
        for partner, target in self.meets[word]:
            self.note(rows, more, (target, one), mask & rows[partner][one])
        if self.fetch_by[word]:
            near = bit_places(mask)
            for source, target in self.fetch_by[word]:
                found = 0
                for other in near:
                    found |= rows[source][other]
                self.note(rows, more, (target, one), found)

    def _hand_on(self, rows, more, word, one, mask):
        """What others get from a person who has a word on fresh parties."""
        for source, target in self.hand_by[word]:
            if rows[source][one]:
                for other in bit_places(mask):
                    self.note(rows, more, (target, other), rows[source][one])
        for base, target in self.hand_of[word]:
            for other in bit_places(rows[base][one]):
                self.note(rows, more, (target, other), mask)

    def note(self, rows, more, key, mask):
        """Put those bits into a wave that are in no row yet."""
        word, one = key
        new = mask & ~rows[word][one]
        if new:
            more[key] = more.get(key, 0) | new


def put_in(rows, wave):
    """Put all of a wave into some rows."""
    for (word, one), mask in wave.items():
        rows[word][one] |= mask


def everything(rows):
    """All of some rows, as one wave."""
    return {(word, one): mask for word, row in rows.items() for one, mask in enumerate(row) if mask}
