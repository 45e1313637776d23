"""Books as texts."""

from handedkeys.books import check_book
from handedkeys.listing import listing_lines
from handedkeys.uses import is_use
from handedkeys.wording import rule_text, text_of


def words_text(words):
    """The text of words in brackets; none without words."""
    return "(" + ", ".join(words) + ")" if words else ""


def line_text(line):
    """The text of a line of a module or policy."""
    return "use " + line[1] + words_text(line[2]) if is_use(line) else rule_text(line)


def block_lines(head, lines):
    """The list of a first line, other ones, and an end."""
    return [head] + lines + ["end"]


def claim_text(name, claim):
    """The text of a claim."""
    text = "claim " + name + ": " + " ".join(claim[:3])
    if len(claim) == 3:
        return text
    (one, word, other), is_other = claim[3], claim[4]
    return text + " " + one + " " + word + " " + ("other " + other if is_other else other)


def listed_blocks(kind, table):
    """The list of the lines of all states, or of all frames, ascending by name."""
    found = []
    for name in sorted(table):
        told = table[name]
        found.extend(block_lines(kind + " " + name, listing_lines(told.people, told.things, told.rights)))
    return found


def write_book(book):
    """The text of a book."""
    check_book(book)
    lines = []
    for name, (words, told) in book.modules.items():
        lines.extend(block_lines("module " + name + words_text(words), [line_text(line) for line in told]))
    for name in sorted(book.policies):
        lines.extend(block_lines("policy " + name, [line_text(line) for line in book.policies[name]]))
    lines.extend(listed_blocks("state", book.states))
    lines.extend(listed_blocks("frame", book.frames))
    lines.extend([claim_text(name, book.claims[name]) for name in sorted(book.claims)])
    return text_of(lines)
