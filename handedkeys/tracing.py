"""On which rights the ways to others go, traced back from these."""

from handedkeys.webs import bit_places, everything, put_in


class Trace:
    """All that can come up, as rows, by which ways are traced back over deeds of some people but makes."""

    def __init__(self, rules, web, actors, come):
        self.rules = rules
        self.web = web
        self.actors = actors
        self.come = come

    def ways_to(self, goals):
        """The rows of all rights on which some way to one of some goals goes, the goals among them."""
        rows = self.web.rows_of([])
        wave = everything(self.web.rows_of(goals))
        while wave:
            put_in(rows, wave)
            wave = self.asked_ahead(rows, wave)
        return rows

    def asked_ahead(self, rows, wave):
        """The wave of what is not in rows yet, and is asked for by deeds that bring what is in a wave."""
        more = {}
        for (word, one), mask in wave.items():
            for rule in self.rules:
                for key, asked in self.asked_by(rule, word, one, mask):
                    self.web.note(rows, more, key, asked)
        return more

    def asked_by(self, rule, word, one, mask):
        """What deeds of a rule ask for that bring one party's word on some others, as pairs of a key and bits."""
        kind = rule[0]
        if kind == "hand":
            return self.asked_by_hands(rule, word, one, mask)
        if kind == "make" or one not in self.actors:
            return []
        if kind == "fetch":
            return self.asked_by_fetches(rule, word, one, mask)
        if rule[-1] != word:
            return []
        for term in rule[1:-1]:
            mask = mask & self.come[term][one]
        return [((term, one), mask) for term in rule[1:-1]]

    def asked_by_fetches(self, rule, word, one, mask):
        """What a person asks for to fetch a word on some parties."""
        found = []
        sources = [source for source, target in rule[2] if target == word]
        near = bit_places(self.come[rule[1]][one]) if sources else []
        for other in near:
            for source in sources:
                hit = self.come[source][other] & mask
                if hit:
                    found.extend([((source, other), hit), ((rule[1], one), 1 << other)])
        return found

    def asked_by_hands(self, rule, word, one, mask):
        """What people ask for to hand a party a word on some parties."""
        found = []
        sources = [source for source, target in rule[2] if target == word]
        givers = [actor for actor in self.actors if self.come[rule[1]][actor] >> one & 1 == 1] if sources else []
        for actor in givers:
            for source in sources:
                hit = self.come[source][actor] & mask
                if hit:
                    found.extend([((source, actor), hit), ((rule[1], actor), 1 << one)])
        return found
