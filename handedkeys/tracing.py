"""On which rights some way to a right goes, traced back from it."""

from handedkeys.webs import bit_places, put_in


def on_some_way(rules, ground, right):
    """The rows of all rights that a way to a right asks for, itself among them, by all that can come up."""
    rows = {word: [0] * len(row) for word, row in ground.rows.items()}
    key, bit = ground.web.spot(right)
    wave = {key: bit}
    while wave:
        put_in(rows, wave)
        wave = asked_ahead(rules, ground, rows, wave)
    return rows


def asked_ahead(rules, ground, rows, wave):
    """The wave of what is not in rows yet, and is asked for by deeds that bring what is in a wave."""
    more = {}
    for (word, one), mask in wave.items():
        for rule in rules:
            for key, asked in asked_by(ground, rule, word, one, mask):
                ground.web.note(rows, more, key, asked)
    return more


def asked_by(ground, rule, word, one, mask):
    """What deeds of a rule ask for that bring one party's word on some parties, as pairs of a key and bits."""
    kind = rule[0]
    if kind == "hand":
        return asked_by_hands(ground, rule, word, one, mask)
    if kind == "make" or one not in ground.actors:
        return []
    if kind == "fetch":
        return asked_by_fetches(ground, rule, word, one, mask)
    if rule[-1] != word:
        return []
    for term in rule[1:-1]:
        mask = mask & ground.rows[term][one]
    return [((term, one), mask) for term in rule[1:-1]]


def asked_by_fetches(ground, rule, word, one, mask):
    """What a person asks for to fetch a word on some parties."""
    found = []
    sources = [source for source, target in rule[2] if target == word]
    for other in bit_places(ground.rows[rule[1]][one]):
        for source in sources:
            hit = ground.rows[source][other] & mask
            if hit:
                found.extend([((source, other), hit), ((rule[1], one), 1 << other)])
    return found


def asked_by_hands(ground, rule, word, one, mask):
    """What people ask for to hand a party a word on some parties."""
    found = []
    sources = [source for source, target in rule[2] if target == word]
    givers = [actor for actor in ground.actors if ground.rows[rule[1]][actor] >> one & 1 == 1]
    for actor in givers:
        for source in sources:
            hit = ground.rows[source][actor] & mask
            if hit:
                found.extend([((source, actor), hit), ((rule[1], actor), 1 << one)])
    return found
