import itertools
import random
import time
import unittest

from handedkeys.bookchanges import (book_lines, broken_by, claim_mends, claims_left, flat, judge_change, needless_lines,
                                    used_modules, without_lines)
from handedkeys.books import BadBook, BadName, read_book
from handedkeys.bookwriting import write_book
from handedkeys.claims import judge_book, judge_claim
from handedkeys.errors import BadNumber, TooLarge
from handedkeys.following import are_alike
from handedkeys.policies import Policy
from tests.booktools import big_book, random_texts
from tests.tools import refused

LETTERS = "abcdefghijklmnopqrst"
TEXT = """module base
raise keep to use
end
module unused
raise keep to see
end
module over(x)
use base
hand by x: use to use
end
policy office
use over(give)
raise keep to use
make give
end
policy bare
raise keep to use
end
state home
people: ann, bob
things: box
ann keep box
ann give bob
end
frame staff
people: boss, clerk
things: desk
boss keep desk
boss give clerk
end
"""
CLAIMS = """claim bars: bare never home bob use box
claim broken: office never home bob use box
claim comes: office can home bob use box
claim keeps: office can home ann use box
claim frames: office can staff clerk use desk
claim doth: office does bare
claim alike: office same bare
"""
BOOK = read_book(TEXT + CLAIMS)
LINES = [("module", "base", 0), ("module", "unused", 0), ("module", "over", 0), ("module", "over", 1), ("policy", "bare", 0), ("policy", "office", 0), ("policy", "office", 1), ("policy", "office", 2),
         ("state", "home", 0), ("state", "home", 1), ("frame", "staff", 0), ("frame", "staff", 1)]


def holding(book):
    """The names of the claims that hold."""
    return [name for name, holds in judge_book(book).items() if holds]


def plain_mends(book, name, most):
    """The least sets of lines that mend a claim, by going through all sets."""
    kept = set(holding(book)) | {name}
    sets = [group for many in range(most + 1) for group in itertools.combinations(book_lines(book), many)]
    found = [group for group in sets if kept <= set(holding(without_lines(book, group)))]
    return [group for group in found if not any(set(less) < set(group) for less in found)]


def plain_needless(book):
    """The lines of modules and policies without each of which all policies do as much."""
    names = sorted(book.policies)
    return [line for line in book_lines(book) if line[0] in ("module", "policy")
            and all(are_alike(book.policy(name), without_lines(book, [line]).policy(name)) for name in names)]


class LinesTest(unittest.TestCase):

    def test_book_lines(self):
        self.assertEqual(book_lines(BOOK), LINES)
        self.assertEqual(book_lines(read_book("")), [])
        self.assertEqual(book_lines(read_book("state b\npeople: a\na r a\nend\nstate aa\npeople: a\nend\npolicy z\nmake a\nend\nmodule c\nmake a\nmake a\nend\npolicy a\nuse c\nend")),
                         [("module", "c", 0), ("module", "c", 1), ("policy", "a", 0), ("policy", "z", 0), ("state", "b", 0)])
        book_lines(BOOK).clear()
        self.assertEqual(len(book_lines(BOOK)), 12)

    def test_without_no_lines_and_lines_given_twice(self):
        self.assertTrue(without_lines(BOOK, []) == BOOK and without_lines(BOOK, ()) == BOOK)
        twice = without_lines(BOOK, [("state", "home", 0), ("policy", "office", 1), ("state", "home", 0)])
        self.assertTrue(twice == without_lines(BOOK, (("policy", "office", 1), ("state", "home", 0))))
        self.assertEqual(list(twice.state("home")), [("ann", "keep", "box")])
        self.assertEqual(book_lines(twice), [line for line in LINES if line not in (("policy", "office", 2), ("state", "home", 1))])

    def test_without_each_line(self):
        written = write_book(BOOK).split("\n")
        spots = [number for number, line in enumerate(written) if line.split(" ")[0] in ("raise", "hand", "use", "make", "ann", "boss")]
        self.assertEqual(len(spots), len(LINES))
        for spot, line in zip(spots, LINES):
            late = without_lines(BOOK, [line])
            self.assertTrue(late == read_book("\n".join(written[:spot] + written[spot + 1:])), line)
            self.assertFalse(late == BOOK)
        empty = without_lines(BOOK, LINES)
        self.assertEqual([book_lines(empty), len(empty), list(empty.policy("office")), empty.names() == BOOK.names()], [[], 7, [], True])
        self.assertEqual(len(book_lines(BOOK)), 12)

    def test_lines_that_are_none(self):
        for lines in (None, "lines", ("policy", "office", 0), {LINES[0]: 1}, [list(LINES[0])], [("policy", "office", 3)], [("policy", "office", -1)], [("policy", "office", True)], [("policy", "office", "0")],
                      [("policy", "base", 0)], [("module", "office", 0)], [("claim", "broken", 0)], [LINES[0], ("state", "home", 2)], [("state", "home")], [("state", "home", 0, 0)], [None], [("state", "nil", 0)],
                      [(["state"], "home", 0)], [("state", ["home"], 0)], [("frame", "home", 0)], [("policy", "office", 0.0)]):
            refused(self, BadNumber, without_lines, BOOK, lines)

    def test_flat(self):
        plain = flat(BOOK)
        self.assertEqual(book_lines(plain), [("policy", "bare", 0)] + [("policy", "office", number) for number in range(3)] + LINES[8:])
        self.assertEqual(plain.names(), [name for name in BOOK.names() if name not in ("base", "over", "unused")])
        self.assertIn("policy office\nraise keep to use\nhand by give: use to use\nmake give\nend\n", write_book(plain))
        self.assertTrue(flat(plain) == plain and read_book(write_book(plain)) == plain and not plain == BOOK)
        self.assertEqual([judge_book(plain), used_modules(plain, "office")], [judge_book(BOOK), []])
        for text in random_texts(421, 100, modules=3, policies=3, many=4):
            book = read_book(text)
            plain = flat(book)
            for name in book.policies:
                self.assertTrue(plain.policy(name) == book.policy(name))
            self.assertEqual([len(plain), "module" in write_book(plain)], [len(book), False])

    def test_used_modules(self):
        self.assertEqual([used_modules(BOOK, "office"), used_modules(BOOK, "bare")], [["base", "over"], []])
        text = "".join("module m%s\n%send\n" % (letter, "use m%s\nuse m%s\n" % (ahead, ahead) if ahead else "") for ahead, letter in zip([""] + list(LETTERS), LETTERS))
        self.assertEqual(used_modules(read_book(text + "policy p\nuse mt\nend"), "p"), ["m" + letter for letter in LETTERS])
        self.assertEqual(used_modules(read_book(text + "policy p\nuse mb\nuse ma\nend"), "p"), ["ma", "mb"])
        used_modules(BOOK, "office").clear()
        self.assertEqual(len(used_modules(BOOK, "office")), 2)


class ChangeTest(unittest.TestCase):

    def test_judge_change_and_broken_by(self):
        late = without_lines(BOOK, [("module", "over", 1)])
        self.assertEqual(judge_change(BOOK, late), {"alike": (False, False), "bars": (True, True), "broken": (False, True), "comes": (True, False), "doth": (True, True), "frames": (True, False), "keeps": (True, True)})
        self.assertEqual(list(judge_change(BOOK, late)), sorted(judge_book(BOOK)))
        self.assertEqual([broken_by(BOOK, late), broken_by(late, BOOK), broken_by(BOOK, BOOK)], [["comes", "frames"], ["broken"], []])

    def test_claims_of_only_one_of_the_books(self):
        other = read_book("policy p\nend\nstate s\npeople: a\nend\nclaim keeps: p can s a r a\nclaim zeal: p same p\nclaim bars: p never s a r a")
        self.assertEqual([judge_change(BOOK, other), judge_change(other, BOOK)], [{"bars": (True, True), "keeps": (True, False)}, {"bars": (True, True), "keeps": (False, True)}])
        self.assertEqual([broken_by(BOOK, other), broken_by(other, BOOK), judge_change(BOOK, read_book(""))], [["keeps"], [], {}])


class MendsTest(unittest.TestCase):

    def test_most(self):
        book = read_book(TEXT + "claim broken: office never home bob use box\nclaim keeps: office can home ann use box")
        single = [(("module", "over", 1),), (("policy", "office", 0),), (("state", "home", 0),)]
        self.assertEqual([claim_mends(book, "broken"), claim_mends(book, "broken", 1), claim_mends(book, "broken", 0), claim_mends(book, "broken", most=2)], [single, single, [], single])
        self.assertEqual([claim_mends(book, "keeps", most) for most in range(3)], [[()]] * 3)

    def test_claims_that_hold_must_still_hold(self):
        self.assertEqual(claim_mends(BOOK, "broken", 2), [])
        book = read_book(TEXT + "claim broken: office never home ann use box\nclaim doth: office does bare\nclaim comes: bare can home ann use box")
        self.assertEqual(claim_mends(book, "broken", 2), [])
        book = read_book(TEXT + "claim broken: office never home ann use box\nclaim doth: office does bare")
        self.assertEqual(claim_mends(book, "broken", 2), [(("state", "home", 1),)])
        book = read_book(TEXT + "claim broken: office never home ann use box\nclaim comes: bare can home ann use box")
        self.assertEqual(claim_mends(book, "broken", 2), [(("module", "base", 0), ("policy", "office", 1)), (("module", "over", 0), ("policy", "office", 1)), (("policy", "office", 0), ("policy", "office", 1))])

    def test_what_is_done_by_two_policies(self):
        book = read_book(TEXT + "claim alike: office same bare")
        self.assertEqual(claim_mends(book, "alike", 2), [(("module", "over", 1), ("policy", "office", 2)), (("policy", "office", 0), ("policy", "office", 2))])
        book = read_book(TEXT + "claim lacks: bare does office")
        self.assertEqual(claim_mends(book, "lacks", 1), [])
        self.assertEqual(claim_mends(book, "lacks", 2), [(("module", "over", 1), ("policy", "office", 2)), (("policy", "office", 0), ("policy", "office", 2))])
        book = read_book("policy p\nraise a to b\nend\npolicy q\nraise a to b\nend\npolicy r\nend\nclaim one: p same q\nclaim two: r does p")
        self.assertEqual([claim_mends(book, "two"), claim_mends(book, "two", 2)], [[], [(("policy", "p", 0), ("policy", "q", 0))]])

    def test_what_never_comes_up_is_not_mended(self):
        book = read_book(TEXT + "claim idle: bare can home bob use box\nclaim also: office can home box use ann")
        self.assertEqual([claim_mends(book, name, most) for name in ("idle", "also") for most in range(3)], [[]] * 6)

    def test_against_going_through_all_sets(self):
        sizes, mended = set(), 0
        texts = itertools.chain(random_texts(422, 60, rights=3, claims=4, many=2), random_texts(423, 40, rights=2, claims=6, many=3, policies=3, modules=1))
        for text in texts:
            book = read_book(text)
            if len(book_lines(book)) > 13:
                continue
            for name in sorted(book.claims):
                for most in range(3):
                    found = claim_mends(book, name, most)
                    self.assertEqual(found, plain_mends(book, name, most), (text, name, most))
                sizes |= {len(group) for group in found}
                mended += found not in ([], [()])
        self.assertEqual(sizes, {0, 1, 2})
        self.assertGreater(mended, 20)

    def test_five_hundred_sets_and_more(self):
        def book_of(many):
            rights = "".join("a%s r a%s\n" % pair for pair in itertools.islice(itertools.product("abcdefghijkl", repeat=2), min(many, 144)))
            rights += "".join("a%s s a%s\n" % pair for pair in itertools.islice(itertools.product("abcdefghijkl", repeat=2), max(0, min(many - 144, 144))))
            rights += "".join("a%s t a%s\n" % pair for pair in itertools.islice(itertools.product("abcdefghijkl", repeat=2), max(0, min(many - 288, 144))))
            rights += "".join("a%s u a%s\n" % pair for pair in itertools.islice(itertools.product("abcdefghijkl", repeat=2), max(0, many - 432)))
            return read_book("policy p\nend\nstate s\npeople: %s\n%send\nclaim c: p never s aa r aa\nclaim d: p never s al z al" % (",".join("a" + letter for letter in "abcdefghijkl"), rights))
        for many, most in ((499, 1), (31, 2), (505, 0)):
            book = book_of(many)
            self.assertEqual(len(book_lines(book)), many)
            self.assertEqual(claim_mends(book, "c", most), [(("state", "s", 0),)] if most else [])
            self.assertEqual(claim_mends(book, "d", most), [()])
        for many, most in ((500, 1), (32, 2), (500, 2)):
            for name in "cd":
                refused(self, TooLarge, claim_mends, book_of(many), name, most)

    def test_refusals_in_order(self):
        large = read_book("policy p\n" + "raise a to b\n" * 40 + "end\nclaim c: p same p")
        for value in (None, TEXT, BOOK.names()):
            refused(self, BadBook, claim_mends, value, None, None)
        for name in ("office", "nil", None, ["broken"], 3):
            self.assertEqual(refused(self, BadName, claim_mends, large, name, "bad").name, name)
        for most in (3, -1, True, None, "1", 1.0):
            refused(self, BadNumber, claim_mends, large, "c", most)
        refused(self, TooLarge, claim_mends, large, "c", 2)
        self.assertEqual(claim_mends(large, "c"), [()])


class NeedTest(unittest.TestCase):

    def test_needless_lines(self):
        self.assertEqual(needless_lines(BOOK), [("module", "base", 0), ("module", "unused", 0), ("module", "over", 0), ("policy", "office", 1)])
        twice = read_book("module m\nraise a to b\nend\npolicy p\nuse m\nuse m\nend\npolicy q\nuse m\nend")
        self.assertEqual(needless_lines(twice), [("policy", "p", 0), ("policy", "p", 1)])
        chain = read_book("policy p\nraise a to b\nraise b to c\nraise a to c\nend\npolicy q\nraise a to c\nmake b, c\nmake c\nend")
        self.assertEqual(needless_lines(chain), [("policy", "p", 2), ("policy", "q", 2)])
        made = read_book("policy p\nmake a, b\nmake a\nraise a to b\nend\npolicy q\nmake a\nmake b\nraise a to b\nend")
        self.assertEqual(needless_lines(made), [("policy", "p", 0), ("policy", "p", 1), ("policy", "q", 1)])
        self.assertEqual(needless_lines(read_book("state s\npeople: a\na r a\nend")), [])
        needless_lines(BOOK).clear()
        self.assertEqual(len(needless_lines(BOOK)), 4)

    def test_needless_against_taking_out_each(self):
        seen = set()
        for text in itertools.chain(random_texts(424, 150, modules=3, policies=3, many=4), random_texts(425, 80, words="ab", modules=3, policies=2, many=5)):
            book = read_book(text)
            found = needless_lines(book)
            self.assertEqual(found, plain_needless(book), text)
            seen |= {line[0] for line in found}
        self.assertEqual(seen, {"module", "policy"})

    def test_claims_left(self):
        self.assertEqual(claims_left(BOOK), ["bars", "doth"])
        book = read_book(TEXT + "claim keeps: office can home ann keep box\nclaim there: bare can home ann use bob\nclaim self: office same office\nclaim doth: office does bare\nclaim two: office can staff boss keep desk")
        self.assertEqual(claims_left(book), ["doth", "self"])
        both = read_book("policy p\nraise a to b\nraise a to b\nend\npolicy q\nraise a to b\nend\nstate s\npeople: x\nx a x\nx b x\nend\nframe f\npeople: x\nx a x\nx b x\nend\nclaim one: p can s x b x\nclaim two: p does q\n"
                         "claim three: p same q\nclaim four: p can f x b other x\nclaim five: q can s x b x\nclaim six: p can s x a x\nclaim seven: q never s x z x")
        self.assertEqual(claims_left(both), ["five", "four", "one", "seven", "two"])
        claims_left(both).clear()
        self.assertEqual(len(claims_left(both)), 5)

    def test_claims_left_against_taking_out_each(self):
        seen = {}
        for text in itertools.chain(random_texts(426, 120, rights=6, claims=6, many=3), random_texts(427, 80, words="ab", rights=8, claims=6, many=4),
                                    random_texts(429, 60, claims=6, many=4, twins=True)):
            book = read_book(text)
            plain = [name for name in holding(book) if all(name in holding(without_lines(book, [line])) for line in book_lines(book))]
            self.assertEqual(claims_left(book), plain, text)
            for name in holding(book):
                key = (book.claims[name][1], book.claims[name][2][:4] == "staf", name in plain)
                seen[key] = seen.get(key, 0) + 1
        for kind in (("can", False), ("can", True), ("does", False), ("same", False)):
            self.assertTrue(seen.get(kind + (True,)) and seen.get(kind + (False,)), (kind, seen))

    def test_refusals(self):
        for value in (None, TEXT, [], BOOK.policy("bare")):
            for call, rest in ((book_lines, []), (without_lines, [None]), (flat, []), (needless_lines, []), (claims_left, []), (used_modules, [None])):
                refused(self, BadBook, call, value, *rest)
            for call in (judge_change, broken_by):
                refused(self, BadBook, call, value, BOOK)
                refused(self, BadBook, call, BOOK, value)
        for name in ("base", "home", "broken", "nil", None, ["office"], 1):
            self.assertEqual(refused(self, BadName, used_modules, BOOK, name).name, name)

    def test_books_stay(self):
        other = read_book(TEXT + CLAIMS)
        for call in (book_lines, flat, needless_lines, claims_left):
            call(other)
        without_lines(other, LINES[:5])
        judge_change(other, BOOK)
        claim_mends(other, "broken", 2)
        self.assertTrue(other == BOOK)
        lines = [LINES[1], LINES[0]]
        without_lines(BOOK, lines)
        self.assertEqual(lines, [LINES[1], LINES[0]])


class BoundsTest(unittest.TestCase):

    def test_large_books_are_quick(self):
        rights = "".join("%s %s %s\n" % (one, word, other) for one in LETTERS[:12] for word in "abcd" for other in LETTERS[:12:3])
        state = "people: %s\nthings: %s\n%send\n" % (",".join(LETTERS[:8]), ",".join(LETTERS[8:12]), rights)
        text = big_book(20, 40, 20, "abcd") + "".join("state s%s\n%s" % (letter, state) for letter in LETTERS)
        claims = ["p%s %s %s" % (letter, ("can", "does", "can", "same")[number % 4], ("s%s c a a" % letter, "p" + LETTERS[(number + 1) % 20])[number % 2]) for number, letter in enumerate(LETTERS)]
        book = read_book(text + "".join("claim c%s: %s\n" % pair for pair in zip(LETTERS, claims)))
        start = time.perf_counter()
        lines = book_lines(book)
        self.assertEqual(len(lines), 3 + 19 * 40 + 40 + 20 * 192)
        needless_lines(book)
        claims_left(book)
        without_lines(book, lines[::2])
        judge_change(book, flat(book))
        self.assertLess(time.perf_counter() - start, 20)

    def test_mends_at_the_bound_are_quick(self):
        rnd = random.Random(428)
        start = time.perf_counter()
        for number in range(3):
            words = ["w" + letter for letter in LETTERS[:(3, 8, 15)[number]]]
            rules = ["%s by %s: %s" % (kind, rnd.choice(words[:3]), ", ".join("%s to %s" % pair for pair in sorted({(rnd.choice(words), rnd.choice(words)) for _ in range(9)}))) for kind in ("fetch", "hand") * 5]
            names = LETTERS[:12]
            rights = sorted({(rnd.choice(names), rnd.choice(words), rnd.choice(names)) for _ in range(2000)})
            for many, most in ((480, 1), (20, 2)):
                told = sorted(rnd.sample(rights, min(many, len(rights))))
                head = "policy p\n%s\nmake %s\nend\nstate s\npeople: %s\nthings: %s\n%send\n" % ("\n".join(rules), words[0], ",".join(names[:8]), ",".join(names[8:]), "".join("%s %s %s\n" % right for right in told))
                book = read_book(head + "claim c: p never s %s %s %s\n" % rnd.choice(rights) + "".join("claim k%s: p can s %s %s %s\n" % ((letter,) + rnd.choice(rights)) for letter in LETTERS[:15]))
                claim_mends(book, "c", most)
                claims_left(book)
                needless_lines(book)
        self.assertLess(time.perf_counter() - start, 20)


if __name__ == "__main__":
    unittest.main()
