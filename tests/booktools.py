"""Random books for the tests, and slow plain ways to work out what they tell."""

import random

from handedkeys.books import read_book
from handedkeys.errors import BadText
from handedkeys.frames import Frame
from handedkeys.states import State
from tests.tools import random_rule, random_state

OPEN = list("xyz")


def rule_line(rule):
    """The text of a rule, pairs and words in the order given."""
    if rule[0] == "make":
        return "make " + ", ".join(rule[1])
    if rule[0] in ("fetch", "hand"):
        return "%s by %s: %s" % (rule[0], rule[1], ", ".join("%s to %s" % pair for pair in rule[2]))
    return "%s %s to %s" % (rule[0], " and ".join(rule[1:-1]), rule[-1])


def random_lines(rnd, words, modules, many):
    """Rules and uses as texts, over some words and modules: a dict from names to how many open words each has."""
    lines = []
    for _ in range(many):
        if modules and rnd.random() < 0.4:
            name = rnd.choice(sorted(modules))
            given = [rnd.choice(words) for _ in range(modules[name])]
            lines.append("use " + name + ("(" + ", ".join(given) + ")" if given else ""))
        elif rnd.random() < 0.15:
            lines.append(rule_line(("make", rnd.sample(words, rnd.randint(1, 2)))))
        else:
            lines.append(rule_line(random_rule(rnd, words)))
    return lines


def listing_text(state, roles=False):
    """The lines of a state or frame."""
    lines = ["people: " + ", ".join(state.people)] if state.people else []
    lines += ["things: " + ", ".join(state.things)] if state.things else []
    return lines + [" ".join(right) for right in state.rights]


def random_frame(rnd, words):
    """A frame of two or three roles."""
    people, things = ["aide", "boss"][:rnd.randint(1, 2)], ["desk"][:rnd.randint(0, 1)]
    roles = people + things
    return Frame(people, things, [(rnd.choice(roles), rnd.choice(words), rnd.choice(roles)) for _ in range(rnd.randint(0, 4))])


def random_claim(rnd, words, policies, states, frames):
    """The text of a claim behind its name."""
    policy = rnd.choice(policies)
    if rnd.random() < 0.35:
        return "%s %s %s" % (policy, rnd.choice(["does", "same"]), rnd.choice(policies))
    verb = rnd.choice(["never", "can"])
    if rnd.random() < 0.3:
        name = rnd.choice(sorted(frames))
        roles = frames[name].roles()
        one, other = rnd.choice(roles), rnd.choice(roles)
        kind = "other " if one == other and rnd.random() < 0.5 else ""
        return "%s %s %s %s %s %s%s" % (policy, verb, name, one, rnd.choice(words), kind, other)
    name = rnd.choice(sorted(states))
    parties = states[name].parties()
    return "%s %s %s %s %s %s" % (policy, verb, name, rnd.choice(parties), rnd.choice(words), rnd.choice(parties))


def random_text(rnd, words="abc", modules=2, policies=2, states=1, frames=1, claims=4, many=3, rights=5, twins=False):
    """The text of a book with so many things of each kind, at most, and so many lines in each; twins are policies alike."""
    words = list(words)
    lines, known, names = [], {}, []
    for number in range(rnd.randint(0, modules)):
        name, free = "mod" + "abcdefgh"[number], rnd.sample(OPEN, rnd.randint(0, 2))
        lines += ["module " + name + ("(" + ", ".join(free) + ")" if free else "")]
        lines += random_lines(rnd, words + free + OPEN[:1], known, rnd.randint(0, many)) + ["end"]
        known[name] = len(free)
    for number in range(rnd.randint(1, policies)):
        names.append("pol" + "abcdefgh"[number])
        told = rnd.sample(told, len(told) - rnd.randint(0, len(told) > 1)) if twins and number > 0 else random_lines(rnd, words, known, rnd.randint(0, many))
        lines += ["policy " + names[-1]] + told + ["end"]
    places = {"home" + "abcdefgh"[number]: random_state(rnd, words, rnd.randint(1, 3), rnd.randint(0, 2), rnd.randint(0, rights))
              for number in range(rnd.randint(1, states))}
    staffs = {"staff" + "abc"[number]: random_frame(rnd, words) for number in range(rnd.randint(1, frames))}
    for kind, table in (("state", places), ("frame", staffs)):
        for name, told in table.items():
            lines += [kind + " " + name] + listing_text(told) + ["end"]
    lines += ["claim c%s: %s" % ("abcdefgh"[number], random_claim(rnd, words, names, places, staffs)) for number in range(rnd.randint(1, claims))]
    return "\n".join(lines) + "\n"


def random_texts(seed, count, **sizes):
    """Generate the texts of random books, all of which can be read."""
    rnd = random.Random(seed)
    while count > 0:
        text = random_text(rnd, **sizes)
        try:
            read_book(text)
        except BadText:
            continue
        count -= 1
        yield text


def split_book(text):
    """Dicts from the names of the modules, with their open words, and of the policies to their lines, as lists of words and signs."""
    modules, policies, inside = {}, {}, None
    for line in text.split("\n"):
        said = line.replace(",", " ").replace("(", " ").replace(")", " ").replace(":", " : ").split()
        if said[:1] == ["module"]:
            modules[said[1]] = (said[2:], [])
            inside = modules[said[1]][1]
        elif said[:1] == ["policy"]:
            inside = policies[said[1]] = []
        elif said[:1] in (["state"], ["frame"], ["end"]):
            inside = None
        elif said and inside is not None:
            inside.append(said)
    return modules, policies


def plain_rule(said, names):
    """The rule of a line, other words in the place of some."""
    def word(one):
        return names.get(one, one)
    if said[0] == "make":
        return ("make", tuple(sorted({word(one) for one in said[1:]})))
    if said[0] in ("fetch", "hand"):
        rest = said[4:]
        return (said[0], word(said[2]), tuple(sorted({(word(rest[k]), word(rest[k + 2])) for k in range(0, len(rest), 3)})))
    return (said[0],) + tuple(word(one) for one in said[1::2])


def plain_lines(lines, names, modules):
    """The rules of lines, uses written out line by line."""
    found = []
    for said in lines:
        if said[0] == "use":
            free, inner = modules[said[1]]
            found += plain_lines(inner, dict(zip(free, [names.get(one, one) for one in said[2:]])), modules)
        else:
            found.append(plain_rule(said, names))
    return found


def plain_policy(text, name):
    """The rules of a policy of a book, by writing out all its lines."""
    modules, policies = split_book(text)
    rules = []
    for rule in plain_lines(policies[name], {}, modules):
        makes = [place for place, one in enumerate(rules) if one[0] == "make"]
        if rule[0] == "make" and makes:
            rules[makes[0]] = ("make", tuple(sorted(set(rules[makes[0]][1] + rule[1]))))
        elif rule not in rules:
            rules.append(rule)
    return rules


def big_book(modules, lines, policies, words, claims=""):
    """A book of modules that each use the one ahead in many ways, and of policies that use the last one."""
    told = ["module ma(x, y)"] + ["raise x to y", "hand by x: y to x", "make x"] + ["end"]
    names = ["m" + "abcdefghijklmnopqrst"[number] for number in range(modules)]
    for ahead, name in zip(names, names[1:]):
        told += ["module %s(x, y)" % name] + ["use %s(%s)" % (ahead, ("x, y", "y, x", "x, x")[number % 3 if number % 5 else 0]) for number in range(lines)] + ["end"]
    for number in range(policies):
        name = "p" + "abcdefghijklmnopqrst"[number]
        told += ["policy " + name] + ["use %s(%s)" % (names[-1], ("%s, %s" % (words[number % len(words)], words[(number + k) % len(words)]))) for k in range(2)] + ["end"]
    return "\n".join(told) + "\n" + claims
