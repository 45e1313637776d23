"""Claims of a book, judged with evidence."""

from handedkeys.books import BadName, check_book, check_name
from handedkeys.closing import Can, Never, can_come, judge_can
from handedkeys.fewest import fewest_deeds
from handedkeys.following import Does, Lacks, judge_follows
from handedkeys.frames import Ever, NoNumber, judge_frame


class Verdict:
    """Whether a claim holds, and the evidence for it, or one that tells against it."""

    def __init__(self, holds, papers):
        self.holds = holds
        self.papers = [copied_paper(paper) for paper in papers]

    def shows(self, book, name):
        """Whether the papers show of a claim that it holds, or that it does not."""
        check_claim(book, name)
        claim = book.claims[name]
        asked = questions(book, claim)
        papers = list(self.papers)
        answer = bool(self.holds) != (claim[1] == "never")
        if self.holds:
            return len(papers) == len(asked) and all([is_answer(paper, question, answer)
                                                      for paper, question in zip(papers, asked)])
        return len(papers) == 1 and any([is_answer(papers[0], question, answer) for question in asked])

    def __bool__(self):
        return bool(self.holds)

    def __eq__(self, other):
        return (isinstance(other, Verdict) and self.holds == other.holds
                and list(self.papers) == list(other.papers))


def copied_paper(paper):
    """A new piece of evidence that is equal to one; what is none stays as it is."""
    if isinstance(paper, Can):
        return Can(paper.deeds)
    if isinstance(paper, Never):
        return Never(paper.rights)
    if isinstance(paper, Ever):
        return Ever(paper.deeds)
    if isinstance(paper, NoNumber):
        return NoNumber(paper.rights)
    if isinstance(paper, Does):
        return Does(paper.ways)
    return Lacks(paper.number, paper.pair) if isinstance(paper, Lacks) else paper


def check_claim(book, name):
    """Refuse what is no book, and what is no name of a claim of it."""
    check_book(book)
    check_name(book.claims, name)


def is_about_state(book, claim):
    """Whether a claim is about a right from a state."""
    return claim[1] in ("never", "can") and claim[2] in book.states


def questions(book, claim):
    """The list of what a claim asks: tuples of a kind, and of what the judge of this kind is given."""
    policy = book.policy(claim[0])
    if is_about_state(book, claim):
        return [("state", policy, book.state(claim[2]), claim[3])]
    if claim[1] in ("never", "can"):
        return [("frame", policy, book.frame(claim[2]), claim[3], claim[4])]
    other = book.policy(claim[2])
    both = [("policy", other, policy), ("policy", policy, other)]
    return both if claim[1] == "same" else both[:1]


def answer_to(question):
    """The evidence that answers a question of a claim."""
    if question[0] == "state":
        return judge_can(question[1], question[2], question[3])
    if question[0] == "frame":
        return judge_frame(question[1], question[2], question[3], is_other=question[4])
    return judge_follows(question[1], question[2])


def is_answer(paper, question, answer):
    """Whether evidence is of the kind that answers a question, answers it so, and shows it."""
    if bool(paper) != answer:
        return False
    if question[0] == "state":
        return isinstance(paper, (Can, Never)) and paper.shows(question[1], question[2], question[3])
    if question[0] == "frame":
        return (isinstance(paper, (Ever, NoNumber))
                and paper.shows(question[1], question[2], question[3], is_other=question[4]))
    return isinstance(paper, (Does, Lacks)) and paper.shows(question[1], question[2])


def judge_claim(book, name):
    """The Verdict on a claim."""
    check_claim(book, name)
    claim = book.claims[name]
    papers = [answer_to(question) for question in questions(book, claim)]
    against = [paper for paper in papers if bool(paper) == (claim[1] == "never")]
    return Verdict(False, against[:1]) if against else Verdict(True, papers)


def judge_book(book):
    """A dict from the names of the claims, ascending, to whether they hold."""
    check_book(book)
    return {name: judge_claim(book, name).holds for name in sorted(book.claims)}


def broken(book):
    """The ascending list of the names of the claims that do not hold."""
    return [name for name, holds in judge_book(book).items() if not holds]


def fewest_run(book, name):
    """The Fewest deeds by which the right of a claim comes up from its state; None, if it never does."""
    check_claim(book, name)
    claim = book.claims[name]
    if not is_about_state(book, claim):
        raise BadName(name)
    policy, state, right = book.policy(claim[0]), book.state(claim[2]), claim[3]
    return fewest_deeds(policy, state, right) if can_come(policy, state, right) else None
