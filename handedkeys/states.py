"""States: people, things, and the rights that they have on one another."""

from handedkeys.errors import BadParty, BadState
from handedkeys.forms import are_rights, are_words, is_row, is_triple


class State:
    """People and things, the parties, and the rights between them."""

    def __init__(self, people, things, rights=()):
        if not are_words(people):
            raise BadState("people")
        if not are_words(things) or any([name in people for name in things]):
            raise BadState("things")
        if len(people) + len(things) == 0:
            raise BadState("parties")
        if not are_rights(rights, list(people) + list(things)):
            raise BadState("rights")
        self.people = sorted(people)
        self.things = sorted(things)
        self.rights = sorted(set(rights))

    def parties(self):
        """The ascending list of all people and things."""
        return sorted(self.people + self.things)

    def words(self, one, other):
        """The ascending list of the words that one party has on another."""
        parties = self.parties()
        for name in (one, other):
            if name not in parties:
                raise BadParty(name)
        return [word for first, word, second in self.rights if first == one and second == other]

    def renamed(self, names):
        """The state with other names for some parties."""
        parties = self.parties()
        if not isinstance(names, dict) or not all([name in parties for name in names]):
            raise BadState("names")
        new = {name: names.get(name, name) for name in parties}
        people = [new[name] for name in self.people]
        things = [new[name] for name in self.things]
        return State(people, things, [(new[one], word, new[other]) for one, word, other in self.rights])

    def __len__(self):
        return len(self.rights)

    def __iter__(self):
        return iter(self.rights)

    def __contains__(self, right):
        return right in self.rights

    def __eq__(self, other):
        return (isinstance(other, State) and self.people == other.people
                and self.things == other.things and self.rights == other.rights)

    def __add__(self, rights):
        if not is_row(rights):
            raise BadState("rights")
        return State(self.people, self.things, self.rights + list(rights))

    def __sub__(self, rights):
        gone = {right: True for right in rights if is_triple(right)}
        return State(self.people, self.things, [right for right in self.rights if right not in gone])
