"""What changes of a book do to its claims, and which of its lines it needs."""

from handedkeys.books import Book, check_book, check_name
from handedkeys.checks import check_most
from handedkeys.claims import check_claim, judge_claim
from handedkeys.errors import BadNumber, TooLarge
from handedkeys.forms import is_integer, is_row
from handedkeys.frames import Frame
from handedkeys.groups import groups_of, is_part
from handedkeys.states import State
from handedkeys.thinning import Thinning, right_lines, rule_lines
from handedkeys.uses import is_use

MOST_OUT = 2
MOST_SETS = 500


def lines_of_book(book):
    """The list of all lines of a book, in the order in which it is written."""
    return rule_lines(book) + right_lines("state", book.states) + right_lines("frame", book.frames)


def book_lines(book):
    """The list of all lines of a book, in the order in which it is written."""
    check_book(book)
    return lines_of_book(book)


def is_line(value, lines):
    """Whether a value is one of the lines that a dict has."""
    if not isinstance(value, tuple) or len(value) != 3 or not is_integer(value[2]):
        return False
    return isinstance(value[0], str) and isinstance(value[1], str) and value in lines


def kept_lines(kind, name, told, gone):
    """The list of those of the lines, or rights, of something that are not gone."""
    return [line for number, line in enumerate(told) if (kind, name, number) not in gone]


def without_lines(book, lines):
    """The book without some lines."""
    check_book(book)
    known = {line: True for line in lines_of_book(book)}
    if not is_row(lines) or not all([is_line(line, known) for line in lines]):
        raise BadNumber("this is no list of lines of the book")
    gone = {line: True for line in lines}
    modules = {name: (words, tuple(kept_lines("module", name, told, gone)))
               for name, (words, told) in book.modules.items()}
    policies = {name: tuple(kept_lines("policy", name, told, gone)) for name, told in book.policies.items()}
    states = {name: State(told.people, told.things, kept_lines("state", name, told.rights, gone))
              for name, told in book.states.items()}
    frames = {name: Frame(told.people, told.things, kept_lines("frame", name, told.rights, gone))
              for name, told in book.frames.items()}
    return Book(modules, policies, states, frames, dict(book.claims))


def flat(book):
    """The book without modules, whose policies have their rules as lines."""
    check_book(book)
    policies = {name: book.policy(name).rules for name in book.policies}
    states = {name: book.state(name) for name in book.states}
    frames = {name: book.frame(name) for name in book.frames}
    return Book({}, policies, states, frames, dict(book.claims))


def judge_change(old, new):
    """A dict from the names of the claims of both books, ascending, to whether they hold in each."""
    check_book(old)
    check_book(new)
    return {name: (judge_claim(old, name).holds, judge_claim(new, name).holds)
            for name in sorted(old.claims) if name in new.claims}


def broken_by(old, new):
    """The ascending list of the claims that hold in the first book, and not in the second one."""
    return [name for name, (before, behind) in judge_change(old, new).items() if before and not behind]


def count_sets(many, most):
    """How many sets of at most so many there are of so many things."""
    return 1 + (many if most > 0 else 0) + (many * (many - 1) // 2 if most > 1 else 0)


def claim_mends(book, name, most=1):
    """The list of the least sets of lines without which a claim holds, and all that hold still do.

    What can come up and does not without a set of lines does not without more of them either.
    """
    check_claim(book, name)
    check_most(most, MOST_OUT)
    lines = lines_of_book(book)
    if count_sets(len(lines), most) > MOST_SETS:
        raise TooLarge("the book has too many sets of lines")
    thinning = Thinning(book)
    kept = [one for one in book.claims if thinning.stands(one, ())]
    first = [one for one in kept if book.claims[one][1] == "can"]
    then = [one for one in kept if book.claims[one][1] != "can"]
    found = []
    hopeless = []
    for group in groups_of(lines, most):
        if any([is_part(less, group) for less in found + hopeless]) or not thinning.stands(name, group):
            continue
        if not thinning.all_stand(first, group):
            hopeless.append(group)
        elif thinning.all_stand(then, group):
            found.append(group)
    return found


def needless_lines(book):
    """The list of the lines of modules and policies without each of which alone all policies do as much."""
    check_book(book)
    thinning = Thinning(book)
    return [line for line in rule_lines(book) if thinning.does_without(line)]


def claims_left(book):
    """The ascending list of the claims that hold, and still do whichever single line is taken out."""
    check_book(book)
    thinning = Thinning(book)
    return [name for name in sorted(book.claims) if thinning.stands(name, ()) and thinning.lasts(name)]


def used_modules(book, name):
    """The ascending list of the modules that a policy uses, or a module that it uses."""
    check_book(book)
    check_name(book.policies, name)
    used = {}
    ahead = list(book.policies[name])
    while ahead:
        line = ahead.pop()
        if is_use(line) and line[1] not in used:
            used[line[1]] = True
            ahead.extend(book.modules[line[1]][1])
    return sorted(used)
