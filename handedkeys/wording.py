"""Lines of texts, read word by word, number by number, and sign by sign."""

from handedkeys.errors import BadText
from handedkeys.forms import LETTERS, is_word
from handedkeys.policies import MOST_IN_ONE

FIGURES = "0123456789"
MOST_FIGURES = 2
RULE_KINDS = ("fetch", "hand", "raise", "meet", "make")


class Line:
    """What stands in a line of a text, read from left to right.

    A part is a word, a number or a sign; `at` is the place of the part that is next.
    """

    def __init__(self, number, text):
        self.number = number
        self.past_end = len(text) + 1
        self.parts = parts_of(text.partition("#")[0])
        self.at = 0

    def said(self, steps=0):
        """The part that is so many steps ahead; an empty one behind the last one."""
        place = self.at + steps
        return self.parts[place][1] if place < len(self.parts) else ""

    def refuse(self, place):
        """Refuse the part at a place, or the line's end, if there is none."""
        raise BadText(self.number, self.parts[place][0] if place < len(self.parts) else self.past_end)

    def take(self, fits):
        """Pass the next part and return it; it is refused if it does not fit."""
        part = self.said()
        if not fits:
            self.refuse(self.at)
        self.at = self.at + 1
        return part

    def take_mark(self, mark):
        """Pass a part that must be this one."""
        return self.take(self.said() == mark)

    def take_word(self):
        """Pass a word."""
        return self.take(is_word(self.said()))

    def take_end(self):
        """Refuse the next part, if there is one."""
        if self.at < len(self.parts):
            self.refuse(self.at)


def parts_of(text):
    """The list of the words, numbers and signs of a text, each with the column where it begins, from 1."""
    parts = []
    place = 0
    while place < len(text):
        behind = part_end(text, place)
        if text[place] != " ":
            parts.append((place + 1, text[place:behind]))
        place = behind
    return parts


def part_end(text, place):
    """The place behind the word, number or sign that begins at a place."""
    for signs in (LETTERS, FIGURES):
        if text[place] in signs:
            while place < len(text) and text[place] in signs:
                place = place + 1
            return place
    return place + 1


def lines_of(text):
    """The list of the lines of a text that have more than blanks and remarks; what is no string is refused."""
    if not isinstance(text, str):
        raise BadText(0, 0)
    lines = [Line(number, line) for number, line in enumerate(text.split("\n"), start=1)]
    return [line for line in lines if line.said() != ""]


def refuse_end(text):
    """Refuse that a text ends, one line behind its last one."""
    raise BadText(text.count("\n") + 2, 1)


def read_row(line, read_one, most):
    """The list of one thing, or of several behind commas, all different, at most so many."""
    row = [read_one(line)]
    while line.said() == "," and len(row) < most:
        line.take_mark(",")
        place = line.at
        one = read_one(line)
        if one in row:
            line.refuse(place)
        row.append(one)
    return row


def read_one_word(line):
    """A word of a row."""
    return line.take_word()


def read_pair(line):
    """A pair of words, of which one goes to the other."""
    first = line.take_word()
    line.take_mark("to")
    return (first, line.take_word())


def read_number(line, many):
    """The number of one of so many rules."""
    part = line.said()
    plain = part.isascii() and part.isdigit() and len(part) <= MOST_FIGURES
    return int(line.take(plain and str(int(part)) == part and int(part) < many))


def read_rule(line):
    """The rule that a line tells, as policies keep it."""
    kind = line.take(line.said() in RULE_KINDS)
    if kind in ("fetch", "hand"):
        line.take_mark("by")
        word = line.take_word()
        line.take_mark(":")
        rule = (kind, word, tuple(sorted(read_row(line, read_pair, MOST_IN_ONE))))
    elif kind == "make":
        rule = (kind, tuple(sorted(read_row(line, read_one_word, MOST_IN_ONE))))
    else:
        words = [line.take_word()]
        if kind == "meet":
            line.take_mark("and")
            words.append(line.take_word())
        line.take_mark("to")
        rule = (kind,) + tuple(words) + (line.take_word(),)
    line.take_end()
    return rule


def pair_text(pair):
    """The text of a pair of words."""
    return pair[0] + " to " + pair[1]


def rule_text(rule):
    """The text of a rule, without a line feed."""
    kind = rule[0]
    if kind == "make":
        return kind + " " + ", ".join(rule[1])
    if kind in ("fetch", "hand"):
        return kind + " by " + rule[1] + ": " + ", ".join([pair_text(pair) for pair in rule[2]])
    return kind + " " + " and ".join(rule[1:-1]) + " to " + rule[-1]


def text_of(lines):
    """The text of lines, with a line feed behind each."""
    return "".join([line + "\n" for line in lines])
