"""The texts of books, read from line to line."""

from handedkeys.checks import MOST_PARTIES
from handedkeys.forms import LONGEST_WORD, is_word
from handedkeys.frames import LONGEST_ROLE, MOST_ROLES, Frame
from handedkeys.listing import PEOPLE, THINGS, Listing
from handedkeys.policies import MOST_IN_ONE, MOST_RULES
from handedkeys.states import State
from handedkeys.uses import bare_lines, gather, rules_of, slots_of
from handedkeys.wording import lines_of, read_one_word, read_row, read_rule, refuse_end

MOST_OF_A_KIND = 20
MOST_LINES = 40
KINDS = ("module", "policy", "state", "frame", "claim")
VERBS = ("never", "can", "does", "same")
BARRED = ("module", "policy", "state", "frame", "claim", "end", "use", "fetch", "hand", "raise", "meet", "make",
          "by", "to", "and", "people", "things", "never", "can", "does", "same", "other")


class BookReader:
    """All that the lines of a book told so far.

    `modules` has pairs of open words and lines, `parts` the parts of the modules, `policies` lines.
    """

    def __init__(self, text):
        self.text = text
        self.lines = lines_of(text)
        self.place = 0
        self.kinds = {}
        self.parts = {}
        self.modules = {}
        self.policies = {}
        self.states = {}
        self.frames = {}
        self.claims = {}

    def next_line(self):
        """The next line; that there is none is refused."""
        if self.place == len(self.lines):
            refuse_end(self.text)
        self.place = self.place + 1
        return self.lines[self.place - 1]

    def read_all(self):
        """Read the whole text."""
        while self.place < len(self.lines):
            line = self.next_line()
            kind = line.said()
            line.take(kind in KINDS and list(self.kinds.values()).count(kind) < MOST_OF_A_KIND)
            name = self.read_name(line, kind)
            if kind == "module":
                self.read_module(line, name)
            elif kind == "policy":
                line.take_end()
                self.policies[name], _ = self.read_rules([])
            elif kind == "claim":
                self.read_claim(line, name)
            else:
                line.take_end()
                self.read_listing(kind, name)

    def read_name(self, line, kind):
        """Read the new name of something of a kind."""
        name = line.said()
        line.take(is_word(name) and name not in BARRED and name not in self.kinds)
        self.kinds[name] = kind
        return name

    def read_module(self, line, name):
        """Read a module behind its name."""
        words = self.read_words(line) if line.said() == "(" else []
        line.take_end()
        lines, parts = self.read_rules(words)
        self.modules[name] = (tuple(words), lines)
        self.parts[name] = parts

    def read_words(self, line):
        """Read the open words of a module, in brackets."""
        line.take_mark("(")
        words = read_row(line, read_one_word, MOST_IN_ONE)
        line.take_mark(")")
        return words

    def read_rules(self, words):
        """Read rules and uses up to an end; the tuple of these lines, and their parts with slots for open words."""
        lines = []
        line = self.next_line()
        while line.said() != "end":
            if len(lines) == MOST_LINES:
                line.refuse(0)
            lines.append(self.read_use(line) if line.said() == "use" else read_rule(line))
            line = self.next_line()
        if not self.are_few(lines):
            line.refuse(0)
        line.take_mark("end")
        line.take_end()
        return tuple(lines), gather(bare_lines(lines), slots_of(words), self.parts)

    def are_few(self, lines):
        """Whether lines tell no more rules than a policy has, and no more words of a make."""
        rules = rules_of(gather(bare_lines(lines), {}, self.parts))
        return len(rules) <= MOST_RULES and all([len(rule[1]) <= MOST_IN_ONE for rule in rules if rule[0] == "make"])

    def read_use(self, line):
        """Read the use of a module that is there."""
        line.take_mark("use")
        name = line.take(line.said() in self.modules)
        given = []
        for place in range(len(self.modules[name][0])):
            line.take_mark("," if place > 0 else "(")
            given.append(line.take_word())
        if given:
            line.take_mark(")")
        line.take_end()
        return ("use", name, tuple(given))

    def read_listing(self, kind, name):
        """Read the parties and rights of a state, or the roles and rights of a frame, up to an end."""
        is_state = kind == "state"
        longest, most = (LONGEST_WORD, MOST_PARTIES) if is_state else (LONGEST_ROLE, MOST_ROLES)
        listing = Listing(BARRED, longest, most)
        line = self.next_line()
        while line.said() != "end":
            if line.said() not in (PEOPLE, THINGS):
                listing.read_right(line)
            elif listing.rights:
                line.refuse(0)
            else:
                listing.read_head(line)
            line = self.next_line()
        line.take(len(listing.known) > 0)
        line.take_end()
        people, things, rights = listing.all_people(), listing.all_things(), list(listing.rights)
        if is_state:
            self.states[name] = State(people, things, rights)
        else:
            self.frames[name] = Frame(people, things, rights)

    def read_claim(self, line, name):
        """Read a claim behind its name."""
        line.take_mark(":")
        policy = line.take(line.said() in self.policies)
        verb = line.take(line.said() in VERBS)
        if verb in ("does", "same"):
            claim = (policy, verb, line.take(line.said() in self.policies))
        else:
            target = line.take(line.said() in self.states or line.said() in self.frames)
            claim = (policy, verb, target) + self.read_right(line, target)
        line.take_end()
        self.claims[name] = claim

    def read_right(self, line, target):
        """Read a right of a state or of a frame; it, and whether it is one on another member."""
        is_frame = target in self.frames
        names = self.frames[target].roles() if is_frame else self.states[target].parties()
        one = line.take(line.said() in names)
        word = line.take_word()
        is_other = is_frame and line.said() == "other"
        if is_other:
            line.take_mark("other")
        other = line.take(line.said() in names and (one == line.said() or not is_other))
        return (one, word, other), is_other
