"""Books with some of their lines gone: what policies still do, and which claims still hold."""

from handedkeys.following import cases, wanted_in
from handedkeys.frames import Frame, first_case, role_of
from handedkeys.reaching import grounds_of, reach_of
from handedkeys.states import State
from handedkeys.uses import gather, rules_of, slots_of


def rule_lines(book):
    """The list of the lines of modules, in their order, and of policies, ascending by name."""
    lines = [("module", name, number) for name, (_, told) in book.modules.items() for number in range(len(told))]
    return lines + [("policy", name, number) for name in sorted(book.policies)
                    for number in range(len(book.policies[name]))]


def right_lines(kind, table):
    """The list of the lines of states, or of frames, ascending by name."""
    return [(kind, name, number) for name in sorted(table) for number in range(len(table[name].rights))]


def parts_on(reach, goals):
    """The list of the parts of rules by which ways to some rights go, and that of the rights from which they go."""
    parts = {}
    grounds = {}
    for goal in goals:
        way = reach.way_to(goal)
        grounds.update({right: True for right in grounds_of(way)})
        for right, deed in way.items():
            if deed is not None:
                part = ("make", right[1]) if reach.is_made(right) else reach.rules[deed[0]]
                parts[part] = True
    return list(parts), list(grounds)


class Thinning:
    """A book of which at most two lines are gone, now these, now those: a tuple in the order of the lines.

    Ways that were found to what claims ask are kept: as long as all of one is left, nothing need be
    worked out again.
    """

    def __init__(self, book):
        self.book = book
        self.bits = {line: 1 << place for place, line in enumerate(rule_lines(book))}
        self.parts = {}
        self.right_ways = {}
        self.case_ways = {}
        self.judged = {}

    def numbered(self, kind, name, told, gone):
        """The list of the lines of a module or policy that are not gone, each with its bit."""
        return [(line, self.bits[(kind, name, number)]) for number, line in enumerate(told)
                if (kind, name, number) not in gone]

    def all_parts(self, gone):
        """A dict from the names of the policies to their parts, and to the lines that each cannot do without."""
        if gone not in self.parts:
            inner = {}
            for name, (words, told) in self.book.modules.items():
                inner[name] = gather(self.numbered("module", name, told, gone), slots_of(words), inner)
            self.parts[gone] = {name: gather(self.numbered("policy", name, told, gone), {}, inner)
                                for name, told in self.book.policies.items()}
        return self.parts[gone]

    def parts_left(self, name, gone):
        """A dict of the parts of a policy that are left without some lines."""
        bit = self.bits.get(gone[-1], 0) if gone else 0
        return {part: True for part, bits in self.all_parts(gone[:-1])[name].items() if bits & bit == 0}

    def rights_gone(self, name, gone):
        """A dict of the rights of a state or frame that are gone."""
        return {self.listed(name).rights[number]: True for kind, owner, number in gone
                if kind in ("state", "frame") and owner == name}

    def listed(self, name):
        """The state or frame with a name."""
        return self.book.states[name] if name in self.book.states else self.book.frames[name]

    def way_for(self, claim, parts, lost):
        """The parts and the rights on a way to the right of a claim, without lost rights; None without a way."""
        _, _, name, right, is_other = claim
        listed = self.listed(name)
        rights = [one for one in listed.rights if one not in lost]
        if name in self.book.states:
            state, goal = State(listed.people, listed.things, rights), right
        else:
            state, goal = first_case(Frame(listed.people, listed.things, rights), right, is_other)
        reach = reach_of(rules_of(parts), state)
        if goal not in reach.since:
            return None
        used, grounds = parts_on(reach, [goal])
        if name in self.book.frames:
            grounds = [(role_of(one), word, role_of(other)) for one, word, other in grounds]
        return used, grounds

    def known_ways(self, claim):
        """The list of the ways that are known to the right of a claim; an empty one, if it never comes up."""
        key = (claim[0],) + claim[2:]
        if key not in self.right_ways:
            way = self.way_for(claim, self.parts_left(claim[0], ()), {})
            self.right_ways[key] = [] if way is None else [way]
        return self.right_ways[key]

    def comes(self, claim, gone):
        """Whether the right of a claim can come up without some lines."""
        ways = self.known_ways(claim)
        if not ways:
            return False
        parts = self.parts_left(claim[0], gone)
        lost = self.rights_gone(claim[2], gone)
        for used, grounds in ways:
            if all([part in parts for part in used]) and not any([right in lost for right in grounds]):
                return True
        way = self.way_for(claim, parts, lost)
        if way is not None:
            ways.append(way)
        return way is not None

    def does_all(self, parts, left):
        """Whether the rules of some parts do all that those of others do."""
        key = (tuple(parts), tuple(left))
        if key not in self.judged:
            self.judged[key] = self.does_each(rules_of(parts), left)
        return self.judged[key]

    def does_each(self, rules, left):
        """Whether the rules of some parts do what each of some rules does."""
        for rule in rules:
            if not self.does_rule(rule, left):
                return False
        return True

    def does_rule(self, rule, left):
        """Whether the rules of some parts do what a rule does, with all its pairs."""
        for case in cases([rule]):
            ways = self.case_ways.setdefault((rule, case[1]), [])
            if any([all([part in left for part in used]) for used in ways]):
                continue
            state, wanted = wanted_in([rule], case)
            reach = reach_of(rules_of(left), state)
            if not all([right in reach.since for right in wanted]):
                return False
            ways.append(parts_on(reach, wanted)[0])
        return True

    def stands(self, name, gone):
        """Whether a claim holds without some lines."""
        claim = self.book.claims[name]
        if claim[1] in ("never", "can"):
            return self.comes(claim, gone) == (claim[1] == "can")
        first, second = self.parts_left(claim[0], gone), self.parts_left(claim[2], gone)
        return self.does_all(second, first) and (claim[1] == "does" or self.does_all(first, second))

    def all_stand(self, names, gone):
        """Whether some claims all hold without some lines."""
        for name in names:
            if not self.stands(name, gone):
                return False
        return True

    def lines_about(self, name):
        """The list of the lines on which it may depend whether a claim holds."""
        claim = self.book.claims[name]
        lines = list(self.bits)
        for kind, table in (("state", self.book.states), ("frame", self.book.frames)):
            if claim[2] in table:
                lines.extend([(kind, claim[2], number) for number in range(len(table[claim[2]].rights))])
        return lines

    def lasts(self, name):
        """Whether a claim that holds still does whichever single line is gone.

        What never comes up does not come up by fewer rules and rights.
        """
        if self.book.claims[name][1] == "never":
            return True
        for line in self.lines_about(name):
            if not self.stands(name, (line,)):
                return False
        return True

    def does_without(self, line):
        """Whether all policies do as much without a line of a module or policy.

        They never do more: no rule comes of fewer lines that does not come of all.
        """
        for name, parts in self.all_parts(()).items():
            left = self.parts_left(name, (line,))
            if len(left) < len(parts) and not self.does_all(parts, left):
                return False
        return True
