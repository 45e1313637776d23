"""The rules that the lines of modules and policies tell, uses of modules written out.

Rules are taken apart here: each word of a make is a part of its own, every other rule is one. Each part is
kept with the lines without any of which it is lost: a number with a bit set for each of these lines.
"""


def is_use(line):
    """Whether a line of a module or policy is the use of a module."""
    return line[0] == "use"


def slot(place):
    """What stands in the parts of a module for its open word at a place; no word has such a sign."""
    return "+" + str(place)


def slots_of(words):
    """A dict from the open words of a module to what stands in its parts for them."""
    return {word: slot(place) for place, word in enumerate(words)}


def parts_of_rule(rule):
    """The list of the parts of a rule."""
    return [("make", word) for word in rule[1]] if rule[0] == "make" else [rule]


def with_names(part, names):
    """A part of a rule with other words in the place of those that a dict has."""
    if part[0] in ("fetch", "hand"):
        pairs = [(names.get(first, first), names.get(second, second)) for first, second in part[2]]
        return (part[0], names.get(part[1], part[1]), tuple(sorted(set(pairs))))
    return (part[0],) + tuple([names.get(word, word) for word in part[1:]])


def gather(lines, names, modules):
    """A dict from the parts that lines tell, in order, to the bits of the lines that each cannot do without.

    The lines are pairs of a line and its bit; names stand in the place of words in these lines alone. A part
    that several lines tell needs only what all of them need.
    """
    parts = {}
    for line, bit in lines:
        if is_use(line):
            given = {slot(place): names.get(word, word) for place, word in enumerate(line[2])}
            found = [(with_names(part, given), bit | bits) for part, bits in modules[line[1]].items()]
        else:
            found = [(with_names(part, names), bit) for part in parts_of_rule(line)]
        for part, bits in found:
            parts[part] = parts.get(part, bits) & bits
    return parts


def rules_of(parts):
    """The list of the rules of some parts, the make, if there is one, where its first word stands."""
    made = sorted([part[1] for part in parts if part[0] == "make"])
    rules = []
    for part in parts:
        if part[0] != "make":
            rules.append(part)
        elif made:
            rules.append(("make", tuple(made)))
            made = []
    return rules


def bare_lines(lines):
    """Lines, each with no bit."""
    return [(line, 0) for line in lines]


def parts_of_modules(modules):
    """A dict from the names of modules, in order, to their parts, slots in the place of open words."""
    found = {}
    for name, (words, lines) in modules.items():
        found[name] = gather(bare_lines(lines), slots_of(words), found)
    return found
