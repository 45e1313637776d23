import random
import time
import unittest

from handedkeys.errors import BadDeed, BadPolicy, BadState, BadText, TooLarge
from handedkeys.keytexts import read_plan, read_policy, read_state, write_plan, write_policy, write_state
from handedkeys.policies import Policy
from handedkeys.states import State
from tests.tools import cases, random_policy, random_state, refused
from tests.test_plans import drawn_plan

POLICY = Policy([("fetch", "take", [("read", "read"), ("own", "use")]), ("hand", "give", [("read", "read")]), ("raise", "own", "read"),
                 ("meet", "own", "read", "lend"), ("make", ["own", "take"])])
LINES = "fetch by take: own to use, read to read\nhand by give: read to read\nraise own to read\nmeet own and read to lend\nmake own, take\n"
WORDS = list("abcdefghij")


def spread(rnd, text):
    """A text with the same words, numbers and signs, but other blanks, remarks and empty lines."""
    lines = []
    for line in text.split("\n"):
        said = line.replace(":", " :").replace(",", " ,").replace("(", " ( ").replace(")", " ) ").split()
        told = " " * rnd.randint(0, 2)
        for number, part in enumerate(said):
            glued = number > 0 and (part[0] in ":,()" or said[number - 1] in ":,()" or part.isdigit() != said[number - 1].isdigit())
            told += " " * rnd.randint(0 if glued or number == 0 else 1, 3) + part
        lines += [""] * rnd.randint(0, 1) + ["  # " + line] * rnd.randint(0, 1) + [told + rnd.choice(["", "  ", "# to: , 7 X", " #"])]
    return "\n".join(lines)


class KeyTextTest(unittest.TestCase):

    def bad(self, text, line, column, read=read_policy):
        error = refused(self, BadText, read, text)
        self.assertEqual((error.line, error.column), (line, column), repr(text))


class PolicyTextTest(KeyTextTest):

    def test_read_and_written(self):
        self.assertTrue(read_policy(LINES) == POLICY)
        self.assertEqual(write_policy(POLICY), LINES)
        self.assertEqual(list(read_policy("make b,a\nfetch by to: to to by,by to to")), [("make", ("a", "b")), ("fetch", "to", (("by", "to"), ("to", "by")))])
        self.assertEqual(list(read_policy("raise to to to\nraise raise to make\nmeet and and and to to")), [("raise", "to", "to"), ("raise", "raise", "make"), ("meet", "and", "and", "to")])

    def test_blanks_remarks_and_empty_lines(self):
        for text in ("", "\n", "  \n# fetch by\n\n   #", "#"):
            self.assertEqual(list(read_policy(text)), [])
        self.assertEqual(write_policy(Policy([])), "")
        self.assertEqual(list(read_policy("\n  raise   own to use# own\n#\n   make own ,  use  ,read   # , 7:\n")), [("raise", "own", "use"), ("make", ("own", "read", "use"))])
        self.assertEqual(list(read_policy("fetch by ask:use to use,own to own")), [("fetch", "ask", (("own", "own"), ("use", "use")))])

    def test_a_rule_twice_and_twelve_rules(self):
        self.assertEqual(list(read_policy("raise a to b\n" * 12)), [("raise", "a", "b")] * 12)
        self.bad("raise a to b\n" * 12 + "\n  raise a to b", 14, 3)
        self.bad("raise a to b\n" * 12 + "# twelve\n zeal", 14, 2)
        self.bad("raise a to b\n" * 11 + "make a\nmake b", 13, 1)

    def test_the_second_make(self):
        self.bad("make a\nraise a to b\n  make b", 3, 3)
        self.bad("make a\nmake", 2, 1)

    def test_nine_pairs_and_words_and_ten(self):
        pairs = ["%s to a" % word for word in WORDS]
        self.assertEqual(len(read_policy("fetch by a: " + ",".join(pairs[:9]))[0][2]), 9)
        self.bad("fetch by a: " + ",".join(pairs), 1, 12 + len(",".join(pairs[:9])) + 1)
        self.bad("hand by a:" + " , ".join(pairs[:9]) + "  ,", 1, 10 + len(" , ".join(pairs[:9])) + 3)
        self.assertEqual(len(read_policy("make " + ",".join(WORDS[:9]))[0][1]), 9)
        self.bad("make " + ", ".join(WORDS), 1, 5 + len(", ".join(WORDS[:9])) + 1)
        self.bad("make " + ", ".join(WORDS[:9] + ["a"]), 1, 5 + len(", ".join(WORDS[:9])) + 1)

    def test_pairs_and_words_that_are_there(self):
        self.bad("fetch by a: r to s, s to r,  r to s, t to t", 1, 30)
        self.bad("fetch by a: r to s, r to s zeal", 1, 21)
        self.bad("hand by a: r to s, r to", 1, 24)
        self.bad("make a, b,c, b, c", 1, 14)
        self.bad("make a, a a", 1, 9)

    def test_the_first_that_does_not_fit(self):
        for text, column in (("fetch", 6), ("fetch by", 9), ("fetch by a", 11), ("fetch by a:", 12), ("fetch by a: r", 14), ("fetch by a: r to", 17),
                             ("fetch by a: r to s,", 20), ("raise", 6), ("raise a", 8), ("raise a to", 11), ("meet a", 7), ("meet a and", 11),
                             ("meet a and b", 13), ("meet a and b to", 16), ("make", 5), ("make a,", 8), ("make # a", 9), ("raise a to # b", 15)):
            self.bad(text, 1, column)
            self.bad("raise a to b\n\n  " + text, 3, column + 2)
        for text, column in (("zeal", 1), ("Raise a to b", 1), (": a", 1), ("7", 1), (",", 1), ("people: a", 1), ("fetch a: r to s", 7), ("fetch by : r to s", 10),
                             ("fetch by a r to s", 12), ("fetch by a, r to s", 11), ("fetch by a: r s", 15), ("fetch by a: r to s; s to r", 19), ("fetch by a: r to s s to r", 20),
                             ("fetch by a: r to 7", 18), ("fetch by abcdefghi: r to s", 10), ("hand for a: r to s", 6), ("raise a, b", 8), ("raise a to b to c", 14),
                             ("raise a to B", 12), ("raise a to bB", 13), ("raise a7 to b", 8), ("raise 7 to b", 7)):
            self.bad(text, 1, column)
            self.bad("make a # b\n\n  " + text, 3, column + 2)
        for text, column in (("meet a to b", 8), ("meet a and b and c", 14), ("make a b", 8), ("make a:", 7), ("make , a", 6), ("make a,, b", 8), ("make a.", 7),
                             ("raise\ta to b", 6), ("raise a to b\r", 13), ("raise a to \u00e4", 12), ("raise a to b\u00a0", 13), ("raise a to abcdefghi", 12), ("raise a_b to c", 8)):
            self.bad(text, 1, column)

    def test_letters_that_stand_together_are_one_word(self):
        self.bad("raiseatob", 1, 1)
        self.bad("raise a tob", 1, 9)
        self.bad("meet a andb to c", 1, 8)
        self.bad("fetchby a: r to s", 1, 1)

    def test_no_string(self):
        for text in (None, 5, b"raise a to b", ["raise a to b"], True):
            self.bad(text, 0, 0)
            self.bad(text, 0, 0, read_state)
            self.bad(text, 0, 0, lambda told: read_plan(POLICY, told))

    def test_back_and_forth(self):
        rnd = random.Random(311)
        for number in range(300):
            policy = random_policy(rnd, ["a", "to", "by", "make", "end", "abcdefgh"], rnd.randint(0, 8), number % 2 == 0)
            text = write_policy(policy)
            self.assertTrue(read_policy(text) == policy and read_policy(spread(rnd, text)) == policy)
            self.assertEqual(write_policy(read_policy(spread(rnd, text))), text)


class StateTextTest(KeyTextTest):

    def test_read_and_written(self):
        state = State(["bob", "ann"], ["cup", "box"], [("bob", "use", "cup"), ("ann", "own", "box"), ("cup", "see", "cup")])
        text = "people: ann, bob\nthings: box, cup\nann own box\nbob use cup\ncup see cup\n"
        self.assertEqual(write_state(state), text)
        self.assertTrue(read_state(text) == state)
        self.assertTrue(read_state("#\nthings:cup,box\n cup see cup\npeople : bob,ann\nann  own box # 7\nbob use cup") == state)

    def test_heads(self):
        self.assertTrue(read_state("people: a") == State(["a"], []))
        self.assertTrue(read_state("things: a\n") == State([], ["a"]))
        self.assertEqual([write_state(State(["a"], [])), write_state(State([], ["a"], [("a", "b", "a")]))], ["people: a\n", "things: a\na b a\n"])
        state = read_state("people: people, things\nthings: a\npeople people things\nthings to a")
        self.assertEqual(list(state), [("people", "people", "things"), ("things", "to", "a")])
        self.assertTrue(read_state("things: b\nb r b\npeople: a\na r b") == State(["a"], ["b"], [("b", "r", "b"), ("a", "r", "b")]))

    def test_twelve_parties_and_thirteen(self):
        many = State(["p" + word for word in WORDS], ["tin", "urn"])
        self.assertTrue(read_state(write_state(many)) == many)
        more = State(many.people + ["zoe"], many.things)
        self.assertTrue(read_state("people: %s\nthings: tin, urn" % ",".join(more.people)) == more)
        refused(self, TooLarge, write_state, more)

    def test_no_parties(self):
        for text, line in (("", 2), ("\n", 3), ("# people: a", 2), ("\n\n  # a\n", 5)):
            self.bad(text, line, 1, read_state)

    def test_the_first_that_does_not_fit(self):
        for text, line, column in (
                ("people:", 1, 8), ("people: # a", 1, 12), ("people: a,", 1, 11), ("people: a b", 1, 11), ("people: a, a", 1, 12), ("people: a\nthings: b, a", 2, 12),
                ("people: a, B", 1, 12), ("people: abcdefghi", 1, 9), ("people: 7", 1, 9), ("people: a;", 1, 10), ("persons: a", 1, 1), (": a", 1, 1), ("a: b", 1, 1), ("7: b", 1, 1),
                ("people: a\npeople: b", 2, 1), ("people: a\n  people:", 2, 3), ("people: a\nthings: b\nthings: c", 3, 1), ("people a", 1, 1), ("people", 1, 1),
                ("people:: a", 1, 8), (":: a", 1, 1), ("people: a\na", 2, 2), ("people: a\na r", 2, 4), ("people: a\na r # b", 2, 8), ("people: a\nb r a", 2, 1),
                ("people: a\na r b", 2, 5), ("people: a\na r a a", 2, 7), ("people: a\na 7 a", 2, 3), ("people: a\na R a", 2, 3), ("people: a\na abcdefghi a", 2, 3),
                ("people: a\na r a\n\n a r a", 4, 2), ("people: a\na r a\na r a a", 3, 1), ("people: a\na r a,", 2, 6), ("people: a\na, r a", 2, 2), ("a r b\npeople: a, b", 1, 1),
                ("people: a\na r b\nthings: b", 2, 5), ("people: a\nthings", 2, 1), ("people: things\nthings", 2, 7), ("people: a\n7 r a", 2, 1), ("people: a\n( r a", 2, 1)):
            self.bad(text, line, column, read_state)

    def test_back_and_forth(self):
        rnd = random.Random(312)
        for _ in range(200):
            state = random_state(rnd, ["a", "to", "people", "abcdefgh"], rnd.randint(0, 4), rnd.randint(1, 3), rnd.randint(0, 9))
            text = write_state(state)
            self.assertTrue(read_state(text) == state and read_state(spread(rnd, text)) == state)


class PlanTextTest(KeyTextTest):

    def test_read_and_written(self):
        plan = [(0, "ann", "bob", "box", ("own", "use")), (1, "ann", "bob", "box", ("read", "read")), (2, "ann", "box"), (3, "bob", "box"), (4, "ann", "tin"), ("drop", "ann", "own", "box")]
        text = "0: ann bob box own to use\n1: ann bob box read to read\n2: ann box\n3: bob box\n4: ann tin\ndrop ann own box\n"
        self.assertEqual(write_plan(POLICY, plan), text)
        self.assertEqual(write_plan(POLICY, tuple(plan)), text)
        self.assertEqual(read_plan(POLICY, text), plan)
        self.assertEqual(read_plan(POLICY, "#\n\n2:ann box#\n  drop drop drop drop  "), [(2, "ann", "box"), ("drop", "drop", "drop", "drop")])
        self.assertEqual([read_plan(POLICY, ""), read_plan(POLICY, "\n# 0"), write_plan(POLICY, [])], [[], [], ""])

    def test_numbers_of_one_and_two_figures(self):
        policy = Policy([("raise", "own", "read")] * 12)
        plan = [(number, "ann", "box") for number in range(12)]
        self.assertEqual(write_plan(policy, plan), "".join("%d: ann box\n" % number for number in range(12)))
        self.assertEqual(read_plan(policy, write_plan(policy, plan)), plan)
        self.assertEqual(read_plan(policy, "10:ann box"), [(10, "ann", "box")])
        for text in ("12: ann box", "00: ann box", "01: ann box", "100: ann box", "011: ann box", "99: ann box"):
            self.bad(text, 1, 1, lambda told: read_plan(policy, told))
        self.bad("\u0661: ann box", 1, 1, lambda told: read_plan(policy, told))
        self.bad("0 : ann 1box", 1, 9, lambda told: read_plan(policy, told))
        self.bad("1 1: ann box", 1, 3, lambda told: read_plan(policy, told))
        self.bad("0: ann box", 1, 1, lambda told: read_plan(Policy([]), told))

    def test_the_first_that_does_not_fit(self):
        for text, line, column in (
                ("ann box", 1, 1), ("5: ann box", 1, 1), ("2 ann box", 1, 3), ("2", 1, 2), ("2:", 1, 3), ("2: ann", 1, 7), ("2: ann # box", 1, 13), ("2: ann box cup", 1, 12),
                ("2: Ann box", 1, 4), ("2: ann 7", 1, 8), ("2: ann, box", 1, 7), ("4: ann box tin", 1, 12), ("3: ann box own and read", 1, 12),
                ("0: ann bob box", 1, 15), ("0: ann bob", 1, 11), ("0: ann bob box own", 1, 19), ("0: ann bob box own to", 1, 22), ("0: ann bob box own use", 1, 20),
                ("0: ann bob box own to read", 1, 16), ("0: ann bob box use to own", 1, 16), ("0: ann bob box own to use read", 1, 27), ("0: ann bob box own to read read", 1, 16),
                ("1: ann bob box own to use", 1, 16), ("0: ann bob box zeal too read", 1, 21), ("drop", 1, 5), ("drop ann", 1, 9), ("drop ann own", 1, 13), ("drop ann own box box", 1, 18),
                ("drop: ann own box", 1, 5), ("drop ann 7 box", 1, 10), ("2: ann box\n\n drop ann own", 3, 14), ("2: ann box\nmake", 2, 1), ("2: ann ninechars", 1, 8), ("-1: ann box", 1, 1)):
            self.bad(text, line, column, lambda told: read_plan(POLICY, told))

    def test_back_and_forth(self):
        rnd = random.Random(313)
        for policy, _ in cases(314, 150, rules=(1, 6)):
            plan = drawn_plan(rnd, policy, "abc", rnd.randint(0, 8))
            text = write_plan(policy, plan)
            self.assertEqual(read_plan(policy, text), plan)
            self.assertEqual(read_plan(policy, spread(rnd, text)), plan)


class RefusalsTest(KeyTextTest):

    def test_what_is_written(self):
        for value in (None, POLICY.rules, "make a"):
            self.assertIsNone(refused(self, BadPolicy, write_policy, value).number)
            self.assertIsNone(refused(self, BadPolicy, write_plan, value, None).number)
            self.assertIsNone(refused(self, BadPolicy, read_plan, value, None).number)
        for value in (None, [("ann", "own", "box")], "people: a"):
            self.assertIsNone(refused(self, BadState, write_state, value).part)
        for plan, place in ((None, None), ("2: ann box", None), ([(2, "ann", "box"), (9, "ann", "box")], 1), ([(0, "ann", "bob", "box", ("use", "use"))], 0), ([("drop", "ann", "own")], 0)):
            self.assertEqual(refused(self, BadDeed, write_plan, POLICY, plan).place, place)

    def test_what_is_returned_is_new(self):
        read_plan(POLICY, "2: ann box").clear()
        self.assertEqual(read_plan(POLICY, "2: ann box"), [(2, "ann", "box")])
        plan = [(2, "ann", "box")]
        write_plan(POLICY, plan)
        self.assertEqual(plan, [(2, "ann", "box")])

    def test_long_texts_are_quick(self):
        start = time.perf_counter()
        names = ["".join(["p", one, other, third]) for one in WORDS for other in WORDS for third in WORDS]
        state = State(names, [], [(one, word, other) for one, other in zip(names, names[1:]) for word in WORDS])
        self.assertTrue(read_state("people: " + ",".join(names) + "\n" + "\n".join(" ".join(right) for right in state)) == state)
        state = State(WORDS, [], [(one, word, other) for one in WORDS for word in names[:20] for other in WORDS])
        self.assertTrue(read_state(write_state(state)) == state)
        plan = [(2, "ann", "box")] * 5000
        self.assertEqual(read_plan(POLICY, write_plan(POLICY, plan)), plan)
        self.bad("raise " + "a" * 200000, 1, 7)
        self.assertEqual(len(read_policy("raise a to b" + " " * 200000)), 1)
        self.assertLess(time.perf_counter() - start, 8)


if __name__ == "__main__":
    unittest.main()
