"""What deeds, one behind the other, ask of any state, and what they leave in it."""

from handedkeys.rules import asked_for, brought_by, is_drop, is_make


class Sketch:
    """All that is known of the states that allow some deeds, and of what is there behind these.

    `early` has the parties that must be there at the beginning; `held` the rights that are there
    behind the deeds, `gone` those that were dropped and are not there behind them.
    """

    def __init__(self, rules):
        self.rules = rules
        self.people = {}
        self.early = {}
        self.needs = {}
        self.held = {}
        self.gone = {}
        self.made = {}

    def copied(self):
        """A sketch of the same deeds, which can be followed up by others."""
        copy = Sketch(self.rules)
        copy.people = {name: True for name in self.people}
        copy.early = {name: True for name in self.early}
        copy.needs = {right: True for right in self.needs}
        copy.held = {right: True for right in self.held}
        copy.gone = {right: True for right in self.gone}
        copy.made = {name: True for name in self.made}
        return copy

    def follow(self, deed):
        """Do a deed behind the others; whether some state allows it there. If none does, the sketch is void."""
        if not self.call_up(deed[1]):
            return False
        self.people[deed[1]] = True
        if is_make(self.rules, deed):
            if deed[2] in self.made or deed[2] in self.early:
                return False
            self.made[deed[2]] = True
        for right in asked_for(self.rules, deed):
            if not self.ask(right):
                return False
        if is_drop(deed):
            del self.held[deed[1:]]
            self.gone[deed[1:]] = True
        for right in brought_by(self.rules, deed):
            self.held[right] = True
            self.gone.pop(right, None)
        return True

    def ask(self, right):
        """Ask for a right; whether it can be there."""
        if right in self.held:
            return True
        if right in self.gone or not self.call_up(right[0]) or not self.call_up(right[2]):
            return False
        self.needs[right] = True
        self.held[right] = True
        return True

    def call_up(self, name):
        """Ask for a party from the beginning on; whether it can be there."""
        if name in self.made:
            return False
        self.early[name] = True
        return True


def sketch_of(rules, deeds):
    """The sketch of some deeds; None, if no state allows them."""
    sketch = Sketch(rules)
    for deed in deeds:
        if not sketch.follow(deed):
            return None
    return sketch
