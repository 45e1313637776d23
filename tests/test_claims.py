import time
import unittest

from handedkeys.books import BadBook, BadName, read_book
from handedkeys.claims import Verdict, broken, fewest_run, judge_book, judge_claim
from handedkeys.closing import Can, Never, judge_can
from handedkeys.errors import TooLarge
from handedkeys.fewest import fewest_deeds
from handedkeys.following import Does, Lacks, judge_follows
from handedkeys.frames import Ever, NoNumber, judge_frame
from handedkeys.policies import Policy
from tests.booktools import big_book, random_texts
from tests.tools import refused

TEXT = """policy office
raise keep to use
hand by give: use to use
make give
end
policy tight
raise keep to use
end
policy twice
raise keep to use
raise keep to keep
end
policy third
raise keep to lend
end
state home
people: ann, bob
things: box
ann keep box
ann give bob
end
frame staff
people: boss, clerk
things: desk
boss keep desk
boss give clerk
end
"""
BOOK = read_book(TEXT + """claim barred: tight never home bob use box
claim broken: office never home bob use box
claim comes: office can home bob use box
claim idle: tight can home bob use box
claim fbar: tight never staff clerk use desk
claim fbroke: office never staff clerk use desk
claim fcome: office can staff clerk use desk
claim fidle: tight can staff clerk use desk
claim mates: office never staff clerk use other clerk
claim given: office can staff clerk give other clerk
claim doth: office does tight
claim lacks: tight does office
claim alike: tight same twice
claim unlike: office same tight
claim less: tight same office
claim apart: tight same third
""")
HOLDS = {"alike": True, "apart": False, "barred": True, "broken": False, "comes": True, "doth": True, "fbar": True, "fbroke": False,
         "fcome": True, "fidle": False, "given": False, "idle": False, "lacks": False, "less": False, "mates": True, "unlike": False}
KINDS = {"alike": [Does, Does], "apart": [Lacks], "barred": [Never], "broken": [Can], "comes": [Can], "doth": [Does], "fbar": [NoNumber], "fbroke": [Ever],
         "fcome": [Ever], "fidle": [NoNumber], "given": [NoNumber], "idle": [Never], "lacks": [Lacks], "less": [Lacks], "mates": [NoNumber], "unlike": [Lacks]}


def plain_holds(book, claim):
    """Whether a claim, told by the words of its line, holds."""
    if claim[1] in ("does", "same"):
        first, second = book.policy(claim[0]), book.policy(claim[2])
        does = bool(judge_follows(second, first))
        return does and (claim[1] == "does" or bool(judge_follows(first, second)))
    policy, name = book.policy(claim[0]), claim[2]
    right, is_other = (claim[3], claim[4], claim[-1]), len(claim) == 7
    if name.startswith("staff"):
        return bool(judge_frame(policy, book.frame(name), right, is_other=is_other)) == (claim[1] == "can")
    return bool(judge_can(policy, book.state(name), right)) == (claim[1] == "can")


def told_claims(text):
    """A dict from the names of the claims of a text to the words of their lines."""
    lines = [line.split() for line in text.split("\n") if line.startswith("claim")]
    return {line[1][:-1]: line[2:] for line in lines}


class VerdictTest(unittest.TestCase):

    def test_each_kind_of_claim(self):
        self.assertEqual(judge_book(BOOK), HOLDS)
        self.assertEqual(list(judge_book(BOOK)), sorted(HOLDS))
        self.assertEqual(broken(BOOK), [name for name in sorted(HOLDS) if not HOLDS[name]])
        for name in HOLDS:
            found = judge_claim(BOOK, name)
            self.assertIs(found.holds, HOLDS[name])
            self.assertIs(bool(found), HOLDS[name])
            self.assertEqual([type(paper) for paper in found.papers], KINDS[name], name)
            self.assertTrue(found.shows(BOOK, name) and found == judge_claim(BOOK, name))

    def test_papers(self):
        office, tight, twice = (BOOK.policy(name) for name in ("office", "tight", "twice"))
        home, staff = BOOK.state("home"), BOOK.frame("staff")
        self.assertTrue(judge_claim(BOOK, "barred").papers[0].shows(tight, home, ("bob", "use", "box")))
        self.assertTrue(judge_claim(BOOK, "broken").papers[0].shows(office, home, ("bob", "use", "box")))
        self.assertTrue(judge_claim(BOOK, "fcome").papers[0].shows(office, staff, ("clerk", "use", "desk")))
        self.assertTrue(judge_claim(BOOK, "mates").papers[0].shows(office, staff, ("clerk", "use", "clerk"), is_other=True))
        self.assertTrue(judge_claim(BOOK, "doth").papers[0].shows(tight, office))
        first, second = judge_claim(BOOK, "alike").papers
        self.assertTrue(first.shows(twice, tight) and second.shows(tight, twice))
        self.assertTrue(first == judge_follows(twice, tight) and second == judge_follows(tight, twice))
        self.assertTrue(judge_claim(BOOK, "unlike").papers[0].shows(office, tight))
        self.assertTrue(judge_claim(BOOK, "less").papers[0].shows(office, tight))
        self.assertEqual(judge_book(read_book("")), {})
        self.assertEqual(broken(read_book(TEXT)), [])

    def test_same_where_either_direction_fails(self):
        other, tight = BOOK.policy("third"), BOOK.policy("tight")
        one, two = judge_follows(other, tight), judge_follows(tight, other)
        self.assertTrue(Verdict(False, [one]).shows(BOOK, "apart") and Verdict(False, [two]).shows(BOOK, "apart"))
        for papers in ([], [one, two], [one, one]):
            self.assertIs(Verdict(False, papers).shows(BOOK, "apart"), False)
        office = BOOK.policy("office")
        self.assertIs(Verdict(False, [judge_follows(tight, office)]).shows(BOOK, "unlike"), False)
        self.assertIs(Verdict(False, [judge_follows(office, tight)]).shows(BOOK, "unlike"), True)

    def test_bent_evidence(self):
        for name in HOLDS:
            found = judge_claim(BOOK, name)
            bent = Verdict(not found.holds, found.papers)
            self.assertIs(bent.shows(BOOK, name), False)
            for papers in ([], list(found.papers) * 2, list(found.papers)[1:], list(found.papers) + [found.papers[0]]):
                self.assertIs(Verdict(found.holds, papers).shows(BOOK, name), False)
                self.assertIs(Verdict(not found.holds, papers).shows(BOOK, name), False)
            found.papers = tuple(found.papers)
            self.assertTrue(found.shows(BOOK, name) and found == judge_claim(BOOK, name))
            for other in HOLDS:
                paper = judge_claim(BOOK, other).papers[0]
                same = [one for one in judge_claim(BOOK, name).papers if type(one) is type(paper)]
                if not same:
                    self.assertIs(Verdict(HOLDS[name], [paper]).shows(BOOK, name), False, (name, other))
                    self.assertIs(Verdict(not HOLDS[name], [paper]).shows(BOOK, name), False, (name, other))
        turned = judge_claim(BOOK, "alike")
        turned.papers.reverse()
        self.assertIs(turned.shows(BOOK, "alike"), False)

    def test_papers_that_were_changed(self):
        for name, bend in (("barred", lambda paper: paper.rights.pop()), ("broken", lambda paper: paper.deeds.pop()), ("broken", lambda paper: paper.deeds.append(paper.deeds[0][:2] + ("cup",))),
                           ("barred", lambda paper: paper.rights.append(("bob", "use", "box"))), ("fcome", lambda paper: paper.deeds.clear()), ("mates", lambda paper: paper.rights.clear()),
                           ("doth", lambda paper: paper.ways.clear()), ("doth", lambda paper: paper.ways.update({(9, None): []})), ("lacks", lambda paper: setattr(paper, "number", 9)),
                           ("lacks", lambda paper: setattr(paper, "pair", ("use", "keep"))), ("alike", lambda paper: paper.ways[(0, None)].append((9, "ann", "box")))):
            found = judge_claim(BOOK, name)
            self.assertTrue(found.shows(BOOK, name))
            bend(found.papers[0])
            self.assertIs(found.shows(BOOK, name), False, name)
            self.assertFalse(found == judge_claim(BOOK, name))

    def test_for_another_claim(self):
        self.assertIs(judge_claim(BOOK, "broken").shows(BOOK, "comes"), False)
        self.assertIs(judge_claim(BOOK, "barred").shows(BOOK, "broken"), False)
        self.assertIs(judge_claim(BOOK, "barred").shows(BOOK, "idle"), False)
        self.assertTrue(Verdict(True, judge_claim(BOOK, "broken").papers).shows(BOOK, "comes"))
        self.assertTrue(Verdict(False, judge_claim(BOOK, "barred").papers).shows(BOOK, "idle"))
        self.assertIs(judge_claim(BOOK, "doth").shows(BOOK, "lacks"), False)
        late = read_book(TEXT.replace("ann give bob\n", "") + "claim broken: office never home bob use box")
        self.assertIs(judge_claim(BOOK, "broken").shows(late, "broken"), False)
        self.assertTrue(judge_claim(late, "broken"))

    def test_evidence_is_equal_and_copied(self):
        paper = Can([(0, "ann", "box")])
        papers = [paper]
        found = Verdict(True, papers)
        papers.clear()
        paper.deeds.clear()
        self.assertTrue(found == Verdict(True, (Can([(0, "ann", "box")]),)))
        for other in (Verdict(False, [Can([(0, "ann", "box")])]), Verdict(True, [Can([])]), Verdict(True, []), Verdict(True, [Ever([(0, "ann", "box")])]), True):
            self.assertFalse(found == other)
        for paper in (Can([]), Never([]), Ever([]), NoNumber([]), Does({}), Lacks(0, None)):
            self.assertEqual([type(one) for one in Verdict(True, [paper]).papers], [type(paper)])
            self.assertIsNot(Verdict(True, [paper]).papers[0], paper)
            self.assertTrue(Verdict(True, [paper]).papers[0] == paper)
        judge_claim(BOOK, "broken").papers.clear()
        judge_book(BOOK).clear()
        broken(BOOK).clear()
        self.assertEqual([len(judge_claim(BOOK, "broken").papers), len(judge_book(BOOK)), len(broken(BOOK))], [1, 16, 9])

    def test_against_judging_by_hand(self):
        seen = set()
        for text in random_texts(411, 150, claims=6):
            book = read_book(text)
            for name, claim in told_claims(text).items():
                found = judge_claim(book, name)
                self.assertEqual(found.holds, plain_holds(book, claim), text)
                self.assertTrue(found.shows(book, name))
                self.assertFalse(Verdict(not found.holds, found.papers).shows(book, name))
                seen.add((claim[1], claim[2][:4], found.holds))
        self.assertEqual({(verb, kind, holds) for verb, kind in (("never", "home"), ("can", "home"), ("never", "staf"), ("can", "staf")) for holds in (True, False)} - seen, set())
        self.assertEqual({("does", True), ("does", False), ("same", True), ("same", False)} - {(verb, holds) for verb, _, holds in seen}, set())

    def test_refusals_in_order(self):
        calls = ((judge_claim, True), (fewest_run, True), (Verdict(True, []).shows, True), (judge_book, False), (broken, False))
        for call, named in calls:
            for value in (None, TEXT, [], Policy([])):
                refused(self, BadBook, call, *([value, None] if named else [value]))
            for name in ("office", "home", "staff", "nil", "", None, 7, ["broken"], True):
                if named:
                    self.assertEqual(refused(self, BadName, call, BOOK, name).name, name)


class FewestRunTest(unittest.TestCase):

    def test_where_it_comes_up_and_where_it_never_does(self):
        for name in ("broken", "comes"):
            found = fewest_run(BOOK, name)
            self.assertEqual(found.deeds, [(0, "ann", "box"), (1, "ann", "bob", "box", ("use", "use"))])
            self.assertTrue(found.shows(BOOK.policy("office"), BOOK.state("home"), ("bob", "use", "box")))
        self.assertEqual([fewest_run(BOOK, "barred"), fewest_run(BOOK, "idle")], [None, None])
        fewest_run(BOOK, "comes").deeds.clear()
        self.assertEqual(len(fewest_run(BOOK, "comes")), 2)

    def test_bad_names(self):
        for name in ("fbar", "fcome", "mates", "given", "doth", "lacks", "alike", "apart"):
            self.assertEqual(refused(self, BadName, fewest_run, BOOK, name).name, name)

    def test_too_large(self):
        rules = "".join("raise a%s to a%s\n" % pair for pair in zip("abcdefghijkl", "bcdefghijklm"))
        head = "policy p\n" + rules + "end\nstate s\npeople: ann, bob\nthings: box\nann aa box\n"
        claims = "end\nclaim c: p never s ann am box\nclaim d: p can s bob am box\n"
        self.assertEqual(len(fewest_run(read_book(head + claims), "c")), 12)
        large = read_book(head + "bob al bob\n" + claims)
        refused(self, TooLarge, fewest_run, large, "c")
        self.assertIsNone(fewest_run(large, "d"))

    def test_against_fewest_deeds(self):
        for text in random_texts(412, 60, rights=3, many=2):
            book = read_book(text)
            for name, claim in told_claims(text).items():
                if claim[2].startswith("home"):
                    policy, state, right = book.policy(claim[0]), book.state(claim[2]), tuple(claim[3:])
                    if not judge_can(policy, state, right):
                        self.assertIsNone(fewest_run(book, name))
                        continue
                    try:
                        plain = fewest_deeds(policy, state, right)
                    except TooLarge:
                        refused(self, TooLarge, fewest_run, book, name)
                        continue
                    self.assertEqual(len(fewest_run(book, name)), len(plain))


class BoundsTest(unittest.TestCase):

    def test_the_bounds_are_quick(self):
        letters = "abcdefghijklmnopqrst"
        rights = "".join("%s %s %s\n" % (one, word, other) for one in letters[:12] for word in "abcd" for other in letters[:12:3])
        text = big_book(20, 40, 20, "abcd") + "state s\npeople: %s\nthings: %s\n%send\n" % (",".join(letters[:8]), ",".join(letters[8:12]), rights)
        start = time.perf_counter()
        book = read_book(text + "".join("claim c%s: p%s %s s a zeal b\n" % (letter, letter, ("never", "can")[number % 2]) for number, letter in enumerate(letters)))
        self.assertEqual(list(judge_book(book).values()), [True, False] * 10)
        book = read_book(text + "".join("claim c%s: p%s same p%s\n" % (one, one, other) for one, other in zip(letters, letters[1:] + "a")))
        self.assertEqual(len(judge_book(book)), 20)
        self.assertLess(time.perf_counter() - start, 12)


if __name__ == "__main__":
    unittest.main()
