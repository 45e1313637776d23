import random
import time
import unittest

from handedkeys.books import BadBook, BadName, read_book
from handedkeys.bookwriting import write_book
from handedkeys.errors import BadText
from handedkeys.frames import Frame
from handedkeys.policies import Policy
from handedkeys.states import State
from tests.booktools import big_book, plain_policy, random_texts
from tests.test_keytexts import spread
from tests.tools import refused

LETTERS = "abcdefghijklmnopqrstuvwxyz"
BARRED = "module policy state frame claim end use fetch hand raise meet make by to and people things never can does same other".split()
TEXT = """module base
raise own to see
end
module lending(own, lend)
raise own to use
hand by lend: use to use, see to see
use base
end
policy office
use lending(keep, give)
make give
end
policy tight
end
state home
people: ann, bob
things: box
ann keep box
end
frame staff
people: boss, clerk
things: desk
boss give clerk
boss keep desk
end
claim one: office never home bob use box
claim two: office can staff clerk use desk
claim three: office does tight
claim four: tight same tight
claim five: office never staff clerk see other clerk
"""


def rules_of(text, name="p"):
    return list(read_book(text).policy(name))


class BookTest(unittest.TestCase):

    def bad(self, text, line, column):
        error = refused(self, BadText, read_book, text)
        self.assertEqual((error.line, error.column), (line, column), text)

    def bad_in(self, head, text, line, column):
        """A text that does not fit behind lines that do."""
        read_book(head)
        self.bad(head + text, head.count("\n") + line, column)


class ReadTest(BookTest):

    def test_what_a_book_tells(self):
        book = read_book(TEXT)
        self.assertEqual(book.names(), ["base", "five", "four", "home", "lending", "office", "one", "staff", "three", "tight", "two"])
        self.assertEqual(len(book), 5)
        self.assertTrue(book.policy("office") == Policy([("raise", "keep", "use"), ("hand", "give", [("see", "see"), ("use", "use")]), ("raise", "own", "see"), ("make", ["give"])]))
        self.assertTrue(book.policy("tight") == Policy([]))
        self.assertTrue(book.state("home") == State(["ann", "bob"], ["box"], [("ann", "keep", "box")]))
        self.assertTrue(book.frame("staff") == Frame(["boss", "clerk"], ["desk"], [("boss", "give", "clerk"), ("boss", "keep", "desk")]))
        for text in ("", "\n", "# policy a\n\n  # end"):
            self.assertEqual([read_book(text).names(), len(read_book(text)), write_book(read_book(text))], [[], 0, ""])

    def test_what_is_returned_is_new(self):
        book = read_book(TEXT)
        book.names().clear()
        book.state("home").rights.clear()
        book.state("home").people.clear()
        book.frame("staff").rights.clear()
        policy = book.policy("office")
        policy.rules = ()
        self.assertTrue(book == read_book(TEXT) and len(book.names()) == 11)
        self.assertEqual([len(book.state("home")), len(book.frame("staff").rights), len(book.policy("office"))], [1, 2, 4])

    def test_bad_names(self):
        book = read_book(TEXT)
        for call, own in ((book.policy, "office"), (book.state, "home"), (book.frame, "staff")):
            for name in ("lending", "one", "office", "home", "staff", "zeal", "", None, 5, ["office"], ("office",), True, {}):
                if name != own:
                    self.assertEqual(refused(self, BadName, call, name).name, name)

    def test_uses_are_written_out(self):
        base = "module base\nraise x to y\nend\nmodule over(x)\nuse base\nraise x to y\nend\nmodule top(a, b)\nuse over(b)\nuse over(a)\nend\n"
        self.assertEqual(rules_of(base + "policy p\nuse over(k)\nend"), [("raise", "x", "y"), ("raise", "k", "y")])
        self.assertEqual(rules_of(base + "policy p\nuse over(x)\nend"), [("raise", "x", "y")])
        self.assertEqual(rules_of(base + "policy p\nraise b to y\nuse top(b, a)\nend"), [("raise", "b", "y"), ("raise", "x", "y"), ("raise", "a", "y")])
        self.assertEqual(rules_of(base + "policy p\nuse top(y, y)\nend"), [("raise", "x", "y"), ("raise", "y", "y")])
        swap = "module one(a, b)\nmeet a and b to c\nend\nmodule two(a, b)\nuse one(b, a)\nend\n"
        self.assertEqual(rules_of(swap + "policy p\nuse two(c, d)\nend"), [("meet", "d", "c", "c")])

    def test_pairs_and_words_fall_together(self):
        text = "module m(x, y)\nfetch by x: x to a, y to a, a to y\nhand by a: x to y, y to x\nmake x, y, a\nend\npolicy p\nuse m(k, k)\nend\npolicy q\nuse m(a, b)\nend"
        self.assertEqual(rules_of(text), [("fetch", "k", (("a", "k"), ("k", "a"))), ("hand", "a", (("k", "k"),)), ("make", ("a", "k"))])
        self.assertEqual(rules_of(text, "q"), [("fetch", "a", (("a", "a"), ("a", "b"), ("b", "a"))), ("hand", "a", (("a", "b"), ("b", "a"))), ("make", ("a", "b"))])

    def test_rules_twice_and_a_second_make(self):
        text = "policy p\nraise a to b\nmake c, a\nraise a to b\nhand by a: b to c, a to b\nmake b\nmake a, c\nhand by a: a to b, b to c\nend"
        self.assertEqual(rules_of(text), [("raise", "a", "b"), ("make", ("a", "b", "c")), ("hand", "a", (("a", "b"), ("b", "c")))])
        text = "module m\nmake z\nraise a to b\nend\npolicy p\nraise b to a\nuse m\nmake a\nend\npolicy q\nmake a\nuse m\nuse m\nend"
        self.assertEqual([rules_of(text), rules_of(text, "q")], [[("raise", "b", "a"), ("make", ("a", "z")), ("raise", "a", "b")], [("make", ("a", "z")), ("raise", "a", "b")]])

    def test_against_writing_out_line_by_line(self):
        sizes = set()
        for text in random_texts(401, 400, modules=3, policies=3, many=4):
            book = read_book(text)
            for name in book.names():
                if name.startswith("pol"):
                    self.assertEqual(list(book.policy(name)), plain_policy(text, name), text)
                    sizes.add(len(book.policy(name)))
        self.assertTrue(set(range(8)) <= sizes)

    def test_heads_of_states(self):
        for lines in ("people: ann\nthings: box", "things: box\n\npeople : ann # one"):
            self.assertTrue(read_book("state s\n%s\nann a box\nend" % lines).state("s") == State(["ann"], ["box"], [("ann", "a", "box")]))
        self.assertTrue(read_book("state s\nthings: box\nend").state("s") == State([], ["box"]))
        twelve = ", ".join(LETTERS[:12])
        self.assertEqual(len(read_book("state s\npeople: %s\nend" % twelve).state("s").people), 12)
        self.assertEqual(len(read_book("frame f\npeople: a\nthings: abcdef, c, d, e, g\nend").frame("f")), 6)
        for word in BARRED:
            self.assertEqual(list(read_book("state s\npeople: ann\nann %s ann\nend" % word).state("s")), [("ann", word, "ann")])
            book = read_book("module m(%s)\nraise %s to a\nend\npolicy p\nuse m(%s)\nraise %s to use\nend" % (word, word, word, word))
            self.assertEqual(list(book.policy("p"))[0], ("raise", word, "a"))

    def test_no_string(self):
        for text in (None, 5, b"policy p\nend", ["policy p", "end"], True):
            self.bad(text, 0, 0)

    def test_equal(self):
        book = read_book(TEXT)
        blocks = {name: TEXT[TEXT.index(name):TEXT.index("end\n", TEXT.index(name)) + 4] for name in ("module base", "module lending", "policy office", "policy tight", "state home", "frame staff")}
        claims = TEXT[TEXT.index("claim"):].split("\n")[:-1]
        other = "".join([blocks["state home"], blocks["frame staff"], blocks["module base"], blocks["module lending"], blocks["policy tight"], blocks["policy office"]]) + "\n".join(claims[::-1])
        self.assertTrue(read_book(other) == book)
        for old, new in (("use to use, see to see", "see to see,use to use"), ("people: ann, bob", "people: bob, ann"), ("boss give clerk\nboss keep desk", "boss keep desk\nboss give clerk"),
                         ("people: ann, bob\nthings: box", "things: box\npeople: ann, bob"), ("make give\n", "# none\n make   give\n")):
            self.assertTrue(old in TEXT and read_book(TEXT.replace(old, new)) == book, new)
        for old, new in (("lending(own, lend)", "lending(lend, own)"), ("use lending(keep, give)\nmake give", "make give\nuse lending(keep, give)"), ("use base\n", ""), ("make give\n", "make give\nmake give\n"),
                         ("make give", "make give, a"), ("ann keep box\n", ""), ("people: ann, bob", "people: ann, bob, cat"), ("boss give clerk\n", ""), ("claim four: tight same tight\n", ""),
                         ("tight same tight", "tight does tight"), ("clerk see other clerk", "clerk see clerk"), ("claim four", "claim fourth"), ("bob use box", "bob see box"), ("office can staff", "tight can staff")):
            self.assertTrue(old in TEXT and not read_book(TEXT.replace(old, new)) == book, new)
        turned = TEXT.replace(blocks["module base"], "").replace("use base\n", "")
        self.assertFalse(read_book(blocks["module base"] + turned) == read_book(turned + blocks["module base"]))
        self.assertFalse(book == TEXT or book == None or book != read_book(TEXT))  # noqa: E711


class MisfitTest(BookTest):

    def test_heads(self):
        for text, line, column in (("zeal", 1, 1), ("end", 1, 1), ("use base", 1, 1), ("raise a to b", 1, 1), ("people: a", 1, 1), (": a", 1, 1), ("7", 1, 1), ("Policy p", 1, 1), ("policy", 1, 7), ("policy # p", 1, 11),
                                   ("policy p q", 1, 10), ("policy p(a)", 1, 9), ("policy 7", 1, 8), ("policy Pa", 1, 8), ("policy abcdefghi", 1, 8), ("state s:", 1, 8), ("state", 1, 6), ("frame f (a)", 1, 9), ("frame ,", 1, 7),
                                   ("module", 1, 7), ("module m(", 1, 10), ("module m()", 1, 10), ("module m(a", 1, 11), ("module m(a,", 1, 12), ("module m(a b)", 1, 12), ("module m(a, a)", 1, 13), ("module m(a) b", 1, 13), ("module m a", 1, 10),
                                   ("module m(a;b)", 1, 11), ("module m(A)", 1, 10), ("module m(7)", 1, 10), ("module (a)", 1, 8), ("claim", 1, 6), ("claim c", 1, 8), ("claim c office", 1, 9)):
            self.bad(text, line, column)
            self.bad_in("policy x\nend\n\n", "  " + text, line, column + 2)

    def test_names_that_may_not_be_or_are_there(self):
        for word in BARRED:
            for kind in ("module", "policy", "state", "frame", "claim"):
                self.bad("%s  %s" % (kind, word), 1, len(kind) + 3)
            self.bad("state s\npeople: ann, %s\nend" % word, 2, 14)
            self.bad("frame f\nthings: %s\nend" % word, 2, 9)
        there = "module m\nend\npolicy p\nend\nstate s\npeople: p\nend\nframe f\npeople: p\nend\nclaim c: p same p\n"
        for name in "mpsfc":
            for kind in ("module", "policy", "state", "frame"):
                self.bad_in(there, "%s %s" % (kind, name), 1, len(kind) + 2)
            self.bad_in(there, "claim %s: p same p" % name, 1, 7)
        self.assertEqual(len(read_book(there + "module ann(end)\nend\nstate own\npeople: own, p, m\nend").names()), 7)

    def test_twenty_of_each_and_one_more(self):
        forms = {"module": "module %s\nend\n", "policy": "policy %s\nend\n", "state": "state %s\npeople: a\nend\n", "frame": "frame %s\npeople: a\nend\n"}
        for kind, form in forms.items():
            twenty = "".join(form % ("n" + letter) for letter in LETTERS[:20])
            self.assertEqual(len(read_book(twenty).names()), 20)
            self.bad_in(twenty, " " + form % "nz", 1, 2)
            self.bad_in(twenty, kind, 1, 1)
            for other in forms:
                if other != kind:
                    self.assertEqual(len(read_book(twenty + forms[other] % "more").names()), 21)
        claims = "policy p\nend\n" + "".join("claim n%s: p same p\n" % letter for letter in LETTERS[:20])
        self.assertEqual(len(read_book(claims)), 20)
        self.bad_in(claims, "claim nz: p same p", 1, 1)

    def test_lines_of_modules_and_policies(self):
        for head in ("module m(x)\n", "policy p\n"):
            for text, column in (("zeal", 1), ("raise a b", 9), ("fetch by a: r to s, r to s", 21), ("make a, a", 9), ("make a,b,c,d,e,f,g,h,i,j", 23), ("policy q", 1), ("people: a", 1), ("claim c: p same p", 1), ("end end", 5),
                                 ("use", 4), ("use nil", 5), ("use 7", 5), ("use (a)", 5), ("raise a to b c", 14), ("module n", 1), ("meet a and b", 13), ("end,", 4)):
                self.bad(head + text, 2, column)
        self.assertEqual(rules_of("policy p\nmake a\nmake b\nraise a to b\nraise a to b\nend # end"), [("make", ("a", "b")), ("raise", "a", "b")])

    def test_uses(self):
        there = "module base\nend\nmodule two(x, y)\nend\nstate s\npeople: a\nend\npolicy old\nend\n"
        for text, column in (("use base()", 9), ("use base(a)", 9), ("use base a", 10), ("use two", 8), ("use two # (a, b)", 17), ("use two(", 9), ("use two(a)", 10), ("use two(a, b, c)", 13), ("use two(a, b", 13), ("use two(a b)", 11), ("use two a, b", 9),
                             ("use two(a, b) c", 15), ("use two(a, B)", 12), ("use two()", 9), ("use two(,", 9), ("use s", 5), ("use old", 5), ("use later", 5), ("use p", 5), ("use two(a, abcdefghi)", 12)):
            self.bad_in(there, "policy p\n" + text, 2, column)
            self.bad_in(there, "module p\n  " + text, 2, column + 2)
        self.bad_in(there, "module p\nuse p\nend", 2, 5)
        self.bad_in(there, "module p\nuse later\nend\nmodule later\nend", 2, 5)
        read_book(there + "policy p\nuse two(a, a)\nuse two ( end,by )\nuse base # (a)\nend")

    def test_forty_lines_and_one_more(self):
        for head in ("module m\n", "policy p\n", "module b\nend\nmodule m\nuse b\n"):
            many = 40 - head.count("use")
            self.assertIsNotNone(read_book(head + "raise a to b\n" * many + "end"))
            self.bad(head + "raise a to b\n" * many + "\n  raise a to b\nend", head.count("\n") + many + 2, 3)
            self.bad(head + "raise a to b\n" * many + "zeal", head.count("\n") + many + 1, 1)
            self.bad(head + "raise a to b\n" * many + "end end", head.count("\n") + many + 1, 5)

    def test_too_many_rules_and_made_words(self):
        twelve = "".join("raise a to %s\n" % letter for letter in LETTERS[:12])
        for head in ("module m\n", "policy p\n"):
            self.assertIsNotNone(read_book(head + twelve + "raise a to b\nend"))
            self.bad(head + twelve + "raise a to z\n\n  end", 16, 3)
            self.bad(head + twelve + "make a\nend end", 15, 1)
            self.assertIsNotNone(read_book(head + "make a,b,c,d,e,f,g,h,i\nmake a,i\nend"))
            self.bad(head + "make a,b,c,d,e,f,g,h,i\nmake j\nend", 4, 1)
        used = "module m\n" + twelve + "end\n"
        self.assertIsNotNone(read_book(used + "policy p\nuse m\nuse m\nend"))
        self.bad_in(used, "policy p\nuse m\nraise z to a\nend", 4, 1)
        self.bad_in(used, "module n\nraise z to a\nuse m\n end", 4, 2)
        two = "module m(x)\nmake x, a, b, c, d, e, f, g, h\n" + "".join("raise x to %s\n" % letter for letter in LETTERS[:6]) + "end\n"
        self.assertIsNotNone(read_book(two + "policy p\nuse m(a)\nend"))
        self.bad_in(two, "policy p\nuse m(i)\nuse m(j)\nend", 4, 1)
        self.assertEqual(len(read_book(two + "policy p\nuse m(i)\nend").policy("p")[0][1]), 9)
        self.bad_in(two, "policy p\nuse m(a)\nuse m(b)\nend", 4, 1)

    def test_open_words_that_a_used_module_has_as_plain_ones(self):
        base = "module m\n" + "".join("raise x to %s\n" % letter for letter in LETTERS[:7]) + "end\n"
        over = base + "module n(x)\nuse m\n" + "".join("raise x to %s\n" % letter for letter in LETTERS[:7]) + "end\n"
        self.assertEqual(len(read_book(over + "policy p\nuse n(x)\nend").policy("p")), 7)
        self.bad_in(over, "policy p\nuse n(k)\nend", 3, 1)

    def test_states_and_frames(self):
        for kind in ("state", "frame"):
            for text, line, column in (("end", 2, 1), ("  end end", 2, 3), ("people:", 2, 8), ("people: # a", 2, 12), ("people a", 2, 8), ("people", 2, 7), ("people: a b", 2, 11), ("people: a,", 2, 11), ("people: a, a", 2, 12),
                                       ("people: a\nthings: b, a", 3, 12), ("people: a\npeople: b", 3, 1), ("people: a\n people", 3, 2), ("a r a", 2, 1), ("zeal: a", 2, 1), ("people: a\na r", 3, 4), ("people: a\na r b", 3, 5), ("people: a\nb r a", 3, 1),
                                       ("people: a\na r a a", 3, 7), ("people: a\na r a\na  r a", 4, 1), ("people: a\na r a\na r a b", 4, 1), ("people: a\na r a\nthings: b", 4, 1), ("people: a\na r a\n people: b", 4, 2), ("people: a\na r a\nthings", 4, 1),
                                       ("people: a\na: r a", 3, 2), ("people: A", 2, 9), ("people: a\na R a", 3, 3), ("people: a\nend end", 3, 5), ("people: a\npolicy p", 3, 1), ("people: a\nraise a to b", 3, 1)):
                self.bad("%s s\n%s" % (kind, text), line, column)
        self.bad("state s\npeople: %s" % ",".join(LETTERS[:13]), 2, 33)
        self.bad("state s\npeople: %s\nthings: n" % ",".join(LETTERS[:12]), 3, 9)
        self.bad("state s\npeople: abcdefghi", 2, 9)
        self.bad("frame s\npeople: a,b,c,d,e,f,g", 2, 21)
        self.bad("frame s\nthings: a\npeople: b, c, d, e, f, g", 3, 24)
        self.bad("frame s\npeople: abcdefg", 2, 9)
        self.assertEqual(read_book("state s\npeople: abcdefg\nend").state("s").people, ["abcdefg"])

    def test_an_end_that_is_missing(self):
        for text in ("policy p", "policy p\nraise a to b", "module m(x)\n\n", "state s\npeople: a\na r a\n", "frame f\n# end", "policy p\nend\nstate s"):
            self.bad(text, text.count("\n") + 2, 1)
        self.bad("policy p\nraise a to", 2, 11)

    def test_claims(self):
        there = TEXT[:TEXT.index("claim")]
        for text, column in (("claim c", 8), ("claim c:", 9), ("claim c office", 9), ("claim c: office", 16), ("claim c: home never home ann use box", 10), ("claim c: lending does office", 10), ("claim c: nil does office", 10), ("claim c: c does office", 10),
                             ("claim c: 7 does office", 10), ("claim c: office knows office", 17), ("claim c: office home", 17), ("claim c: office : home", 17), ("claim c: office does", 21), ("claim c: office does home", 22), ("claim c: office does lending", 22), ("claim c: office same nil", 22),
                             ("claim c: office does tight tight", 28), ("claim c: office same tight,", 27), ("claim c: office never", 22), ("claim c: office never office ann use box", 23), ("claim c: office never nil ann use box", 23), ("claim c: office can lending ann use box", 21),
                             ("claim c: office never home", 27), ("claim c: office never home ann", 31), ("claim c: office never home ann use", 35), ("claim c: office never home zoe use box", 28), ("claim c: office never home ann use zoe", 36), ("claim c: office never home ann 7 box", 32),
                             ("claim c: office never home ann Use box", 32), ("claim c: office never home ann use other ann", 36), ("claim c: office never home ann use box box", 40), ("claim c: office can staff boss use", 35), ("claim c: office can staff ann use desk", 27), ("claim c: office can staff boss use ann", 36),
                             ("claim c: office can staff boss use other desk", 42), ("claim c: office can staff boss use other", 41), ("claim c: office can staff boss use other other", 42), ("claim c: office can staff boss use other boss boss", 47), ("claim c: office can staff boss use other nil", 42)):
            self.bad_in(there, text, 1, column)
        self.bad("claim c: p same p\npolicy p\nend", 1, 10)
        self.bad("policy p\nend\nclaim c: p never s a r a\nstate s\npeople: a\nend", 3, 18)
        self.assertEqual(len(read_book(there + "claim c:office can staff boss use other boss#\nclaim d : office never home ann other ann")), 2)
        self.assertEqual(len(read_book("state s\nthings: office\nend\npolicy office\nend\nclaim c: office never s office never office")), 1)


class WriteTest(BookTest):

    def test_order(self):
        self.assertEqual(write_book(read_book(TEXT)), """module base
raise own to see
end
module lending(own, lend)
raise own to use
hand by lend: see to see, use to use
use base
end
policy office
use lending(keep, give)
make give
end
policy tight
end
state home
people: ann, bob
things: box
ann keep box
end
frame staff
people: boss, clerk
things: desk
boss give clerk
boss keep desk
end
claim five: office never staff clerk see other clerk
claim four: tight same tight
claim one: office never home bob use box
claim three: office does tight
claim two: office can staff clerk use desk
""")

    def test_modules_in_order_the_rest_ascending(self):
        text = "claim c: b same a\nframe f\nthings: b,a\nb r a\na s b\na r b\nend\n"
        text = "policy b\nmake c , b\nend\nmodule z(q)\nend\npolicy a\nuse z ( k )\nend\nmodule y\nuse z(a)\nend\nframe g\npeople: c\nend\nstate s\nthings: b\nend\n" + text + "claim aa: b does a"
        self.assertEqual(write_book(read_book(text)), "module z(q)\nend\nmodule y\nuse z(a)\nend\npolicy a\nuse z(k)\nend\npolicy b\nmake b, c\nend\nstate s\nthings: b\nend\n"
                         "frame f\nthings: a, b\na r b\na s b\nb r a\nend\nframe g\npeople: c\nend\nclaim aa: b does a\nclaim c: b same a\n")

    def test_back_and_forth(self):
        rnd = random.Random(402)
        for text in random_texts(403, 200, modules=3, policies=3, states=2, frames=2, many=4):
            book = read_book(text)
            written = write_book(book)
            self.assertTrue(read_book(written) == book)
            self.assertEqual(write_book(read_book(written)), written)
            self.assertTrue(read_book(spread(rnd, text)) == book)

    def test_no_book(self):
        for value in (None, TEXT, [], Policy([])):
            refused(self, BadBook, write_book, value)

    def test_the_bounds_are_quick(self):
        start = time.perf_counter()
        text = big_book(20, 40, 20, "abcd")
        book = read_book(text)
        self.assertTrue(read_book(write_book(book)) == book)
        for letter in LETTERS[:20]:
            book.policy("p" + letter)
        right = "".join("%s %s %s\n" % (one, word, other) for one in LETTERS[:12] for other in LETTERS[:12] for word in LETTERS)
        states = "".join("state s%s\npeople: %s\n%send\n" % (letter, ",".join(LETTERS[:12]), right) for letter in LETTERS[:5])
        book = read_book(states)
        self.assertTrue(read_book(write_book(book)) == book)
        self.assertLess(time.perf_counter() - start, 12)


if __name__ == "__main__":
    unittest.main()
