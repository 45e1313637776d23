"""Small policies and states for the tests, and slow plain ways to work out what the program tells."""

import random

from handedkeys.policies import Policy
from handedkeys.states import State

FETCH = Policy([("fetch", "take", [("take", "take"), ("use", "use")])])
GRANT = Policy([("hand", "give", [("give", "give"), ("use", "use")])])
BOTH = FETCH + GRANT
ALL = Policy([("fetch", "a", [("a", "a"), ("b", "c")]), ("hand", "b", [("a", "b")]), ("raise", "c", "a"),
              ("meet", "a", "b", "c"), ("make", ["a", "b"])])


def random_rule(rnd, words):
    """A rule of any kind but a make."""
    kind = rnd.choice(["fetch", "hand", "fetch", "hand", "raise", "meet"])
    if kind in ("fetch", "hand"):
        pairs = sorted(set((rnd.choice(words), rnd.choice(words)) for _ in range(rnd.randint(1, 3))))
        return (kind, rnd.choice(words), pairs)
    return (kind,) + tuple(rnd.choice(words) for _ in range(2 if kind == "raise" else 3))


def random_policy(rnd, words, many, make):
    """A policy of so many rules, with or without a make."""
    rules = [random_rule(rnd, words) for _ in range(many)]
    if make:
        rules.insert(rnd.randint(0, many), ("make", rnd.sample(words, rnd.randint(1, len(words)))))
    return Policy(rules)


def random_state(rnd, words, people, things, rights):
    """A state of so many people and things, and at most so many rights."""
    names = ["ann", "bob", "cat", "dan", "eve", "fay", "gus", "hal"][:people]
    stuff = ["box", "cup", "tin", "urn", "van"][:things]
    both = names + stuff
    triples = [(rnd.choice(both), rnd.choice(words), rnd.choice(both)) for _ in range(rights)]
    return State(names, stuff, triples)


def cases(seed, many, words="abc", people=(1, 3), things=(0, 2), rights=(0, 6), rules=(1, 4)):
    """Generate random policies, with and without a make, and states."""
    rnd = random.Random(seed)
    for number in range(many):
        policy = random_policy(rnd, list(words), rnd.randint(*rules), number % 2 == 1)
        yield policy, random_state(rnd, list(words), rnd.randint(*people), rnd.randint(*things), rnd.randint(*rights))


def busy_cases(seed, many):
    """Generate random policies of fetches and hands that hand on one word, often along several ways, and states."""
    rnd = random.Random(seed)
    for number in range(many):
        rules = [(kind, rnd.choice("ab"), [("a", "a"), ("b", "b")][:rnd.randint(1, 2)]) for kind in ("fetch", "hand")]
        rules += [("raise", "a", "b")] * rnd.randint(0, 1) + [("make", ["a"])] * (number % 2)
        yield Policy(rules), random_state(rnd, ["a", "b"], rnd.randint(2, 3), rnd.randint(0, 1), rnd.randint(5, 9))


def plain_deeds(policy, people, names, held):
    """All deeds but makes and drops that can be done, with the right that each brings."""
    found = []
    for number, rule in enumerate(policy.rules):
        for p in people:
            for q in names:
                if rule[0] == "raise" and (p, rule[1], q) in held:
                    found.append(((number, p, q), (p, rule[2], q)))
                if rule[0] == "meet" and (p, rule[1], q) in held and (p, rule[2], q) in held:
                    found.append(((number, p, q), (p, rule[3], q)))
                if rule[0] in ("fetch", "hand") and (p, rule[1], q) in held:
                    for z in names:
                        for pair in rule[2]:
                            if rule[0] == "fetch" and (q, pair[0], z) in held:
                                found.append(((number, p, q, z, pair), (p, pair[1], z)))
                            if rule[0] == "hand" and (p, pair[0], z) in held:
                                found.append(((number, p, q, z, pair), (q, pair[1], z)))
    return found


def plain_rounds(policy, state, willing=None):
    """A dict from all rights between parties and helpers to their rounds, worked out round by round."""
    people = state.people if willing is None else willing
    made = policy.made()
    names = state.parties() + [p + "+" for p in state.people if made is not None]
    since = {right: 0 for right in state.rights}
    number = 0
    while True:
        number += 1
        new = [right for _, right in plain_deeds(policy, people, names, since)]
        if number == 1 and made is not None:
            new += [(p, word, p + "+") for p in people for word in made]
        new = [right for right in new if right not in since]
        if not new:
            return since
        for right in new:
            since[right] = number


def between(state, rights):
    """The ascending list of those of some rights that are between the parties of a state."""
    names = state.parties()
    return sorted(right for right in rights if right[0] in names and right[2] in names)


def all_rights(state, words):
    """All rights between the parties with some words."""
    return [(one, word, other) for one in state.parties() for word in words for other in state.parties()]


def reached(policy, state, steps):
    """The sets of rights to which so many deeds at most, but drops, lead, each with the makers of new things.

    A dict from pairs of rights and makers to the least number of deeds; the things that the makers made
    are called newa, newb and so on, in the order of the makers.
    """
    start = (frozenset(state.rights), ())
    found = {start: 0}
    layer = [start]
    for number in range(1, steps + 1):
        following = []
        for held, makers in layer:
            fresh = ["new" + letter for letter in "abcdefgh"[:len(makers) + 1]]
            after = [(held | {right}, makers)
                     for _, right in plain_deeds(policy, state.people, state.parties() + fresh[:-1], held)]
            if policy.made() is not None:
                after += [(held | {(p, word, fresh[-1]) for word in policy.made()}, makers + (p,))
                          for p in state.people]
            for one in after:
                if one not in found:
                    found[one] = number
                    following.append(one)
        layer = following
    return found


def refused(test, error, call, *arguments, **named):
    """The error that a call raises, which must be of just this class."""
    with test.assertRaises(error) as caught:
        call(*arguments, **named)
    test.assertIs(type(caught.exception), error)
    return caught.exception
