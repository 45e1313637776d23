"""Books: modules, policies, states, frames, and claims about them."""

from handedkeys.bookreading import BookReader
from handedkeys.errors import RightError
from handedkeys.forms import is_word
from handedkeys.frames import Frame
from handedkeys.policies import Policy
from handedkeys.states import State
from handedkeys.uses import bare_lines, gather, parts_of_modules, rules_of


class BadBook(RightError):
    """What is no book."""


class BadName(RightError):
    """What is no such name of a book; `name` is what was given."""

    def __init__(self, name):
        super().__init__("the book has no such name")
        self.name = name


class Book:
    """What the text of a book tells, in dicts by name.

    Modules, in their order, are pairs of the tuple of their open words and the tuple of their lines; policies
    are tuples of lines. A line is a rule, or a use: `("use", name, words)`. Claims are tuples of a policy, a
    verb, and a policy, or a state or frame with a right and whether it is one on another member.
    None of this is changed or given away: what is returned is new.
    """

    def __init__(self, modules, policies, states, frames, claims):
        self.modules = modules
        self.parts = parts_of_modules(modules)
        self.policies = policies
        self.states = states
        self.frames = frames
        self.claims = claims

    def names(self):
        """The ascending list of all names."""
        return sorted(list(self.modules) + list(self.policies) + list(self.states) + list(self.frames)
                      + list(self.claims))

    def policy(self, name):
        """The policy with a name, uses of modules written out."""
        check_name(self.policies, name)
        return Policy(rules_of(gather(bare_lines(self.policies[name]), {}, self.parts)))

    def state(self, name):
        """The state with a name."""
        check_name(self.states, name)
        found = self.states[name]
        return State(found.people, found.things, found.rights)

    def frame(self, name):
        """The frame with a name."""
        check_name(self.frames, name)
        found = self.frames[name]
        return Frame(found.people, found.things, found.rights)

    def __len__(self):
        return len(self.claims)

    def __eq__(self, other):
        return (isinstance(other, Book) and list(self.modules.items()) == list(other.modules.items())
                and self.policies == other.policies and self.states == other.states
                and self.frames == other.frames and self.claims == other.claims)


def check_name(table, name):
    """Refuse what is no name that a dict has."""
    if not is_word(name) or name not in table:
        raise BadName(name)


def check_book(book):
    """Refuse what is no book."""
    if not isinstance(book, Book):
        raise BadBook("this is no book")


def read_book(text):
    """The book that a text tells."""
    reader = BookReader(text)
    reader.read_all()
    return Book(reader.modules, reader.policies, reader.states, reader.frames, reader.claims)
