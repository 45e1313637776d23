"""Parties, and the rights between them, as the lines of a text tell them one by one."""

from handedkeys.forms import LONGEST_WORD, is_word

PEOPLE = "people"
THINGS = "things"


class Listing:
    """The people, the things and the rights that lines told so far.

    Names may not be barred ones, nor longer than `longest`, nor more than `most`, if there is a most.
    """

    def __init__(self, barred=(), longest=LONGEST_WORD, most=None):
        self.barred = barred
        self.longest = longest
        self.most = most
        self.heads = {}
        self.known = {}
        self.rights = {}

    def read_head(self, line):
        """Read a line that tells all people, or all things."""
        head = line.take(line.said() in (PEOPLE, THINGS) and line.said() not in self.heads)
        line.take_mark(":")
        names = [self.read_name(line)]
        while line.said() == ",":
            line.take_mark(",")
            names.append(self.read_name(line))
        line.take_end()
        self.heads[head] = names

    def read_name(self, line):
        """Read the name of a new party."""
        name = line.said()
        is_new = is_word(name, self.longest) and name not in self.known and name not in self.barred
        line.take(is_new and (self.most is None or len(self.known) < self.most))
        self.known[name] = True
        return name

    def read_right(self, line):
        """Read a line that tells a right between parties that are known."""
        place = line.at
        one = line.take(line.said() in self.known)
        word = line.take_word()
        right = (one, word, line.take(line.said() in self.known))
        if right in self.rights:
            line.refuse(place)
        line.take_end()
        self.rights[right] = True

    def all_people(self):
        """The list of the people."""
        return self.heads.get(PEOPLE, [])

    def all_things(self):
        """The list of the things."""
        return self.heads.get(THINGS, [])


def listing_lines(people, things, rights):
    """The list of the lines that tell parties and rights."""
    heads = [head + ": " + ", ".join(names) for head, names in ((PEOPLE, people), (THINGS, things)) if names]
    return heads + [" ".join(right) for right in rights]
