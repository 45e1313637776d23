import unittest

from handedkeys.errors import BadPolicy
from handedkeys.policies import Policy
from tests.tools import refused

FIRST = ("fetch", "ask", [("use", "use"), ("own", "use")])
SECOND = ("make", ["use", "own"])
THIRD = ("meet", "key", "own", "lend")
LETTERS = "abcdefghijklm"


class PolicyTest(unittest.TestCase):

    def setUp(self):
        self.policy = Policy([FIRST, SECOND, THIRD])

    def test_rules_have_ascending_tuples(self):
        self.assertEqual(self.policy.rules, (("fetch", "ask", (("own", "use"), ("use", "use"))),
                                             ("make", ("own", "use")), ("meet", "key", "own", "lend")))
        self.assertEqual(Policy((("hand", "b", (("z", "a"), ("a", "z"))), ("raise", "y", "x"))).rules,
                         (("hand", "b", (("a", "z"), ("z", "a"))), ("raise", "y", "x")))
        self.assertEqual(Policy([]).rules, ())

    def test_len_iteration_and_numbers(self):
        self.assertEqual([len(self.policy), len(Policy(()))], [3, 0])
        self.assertEqual(list(self.policy), list(self.policy.rules))
        self.assertEqual([self.policy[number] for number in range(3)], list(self.policy.rules))

    def test_what_is_no_number(self):
        for number in (3, -1, True, False, None, "0", 1.0, (0,), [0]):
            with self.assertRaises(BadPolicy) as caught:
                self.policy[number]
            self.assertEqual(caught.exception.number, number)
            self.assertEqual(refused(self, BadPolicy, self.policy.without, 1, number, -7).number, number)

    def test_without(self):
        self.assertTrue(self.policy.without(0, 2, 0) == Policy([SECOND]))
        self.assertTrue(self.policy.without() == self.policy)
        self.assertTrue(self.policy.without(1) == Policy([FIRST, THIRD]))
        self.assertEqual(len(self.policy), 3)

    def test_equal(self):
        self.assertTrue(self.policy == Policy((("fetch", "ask", (("own", "use"), ("use", "use"))),
                                               ("make", ("use", "own")), THIRD)))
        self.assertFalse(self.policy == Policy([SECOND, FIRST, THIRD]))
        self.assertTrue(self.policy != Policy([FIRST, SECOND]))
        self.assertFalse(self.policy == self.policy.rules)

    def test_plus(self):
        lift = ("raise", "own", "use")
        other = Policy([lift, THIRD, lift, ("fetch", "ask", (("own", "use"), ("use", "use")))])
        self.assertEqual((self.policy + other).rules, self.policy.rules + (lift, lift))
        self.assertTrue(self.policy + self.policy == self.policy)
        double = Policy([lift, lift])
        self.assertTrue(double + double == double)
        self.assertTrue(Policy([]) + double == double)
        self.assertEqual(len(self.policy), 3)

    def test_plus_refuses_what_would_come_of_it(self):
        with self.assertRaises(BadPolicy) as caught:
            self.policy + Policy([THIRD, ("raise", "a", "b"), ("make", ["own"])])
        self.assertEqual(caught.exception.number, 4)
        many = Policy([("raise", "a", letter) for letter in LETTERS[:10]])
        with self.assertRaises(BadPolicy) as caught:
            self.policy + many
        self.assertIsNone(caught.exception.number)
        self.assertEqual(len(self.policy + many.without(0)), 12)

    def test_made_and_words(self):
        self.assertEqual(self.policy.made(), ("own", "use"))
        self.assertIsNone(self.policy.without(1).made())
        self.assertEqual(self.policy.words(), ["ask", "key", "lend", "own", "use"])
        self.assertEqual(Policy([]).words(), [])
        self.assertEqual(Policy([("hand", "d", [("b", "c"), ("c", "a")]), ("raise", "f", "e")]).words(), list("abcdef"))
        self.policy.words().clear()
        self.assertEqual(len(self.policy.words()), 5)

    def test_twelve_rules_and_thirteen(self):
        rules = [("raise", "a", letter) for letter in LETTERS]
        self.assertEqual(len(Policy(rules[:12])), 12)
        self.assertIsNone(refused(self, BadPolicy, Policy, rules).number)
        self.assertIsNone(refused(self, BadPolicy, Policy, [5] * 13).number)
        self.assertEqual(len(Policy([rules[0]] * 12)), 12)

    def test_nine_pairs_and_ten(self):
        pairs = [("a", letter) for letter in LETTERS]
        for kind in ("fetch", "hand"):
            self.assertEqual(len(Policy([(kind, "a", pairs[:9])])[0][2]), 9)
            self.assertEqual(refused(self, BadPolicy, Policy, [THIRD, (kind, "a", pairs[:10])]).number, 1)
            self.assertEqual(refused(self, BadPolicy, Policy, [(kind, "a", [])]).number, 0)
        self.assertEqual(len(Policy([("make", list(LETTERS[:9]))]).made()), 9)
        self.assertEqual(refused(self, BadPolicy, Policy, [("make", list(LETTERS[:10]))]).number, 0)
        self.assertEqual(refused(self, BadPolicy, Policy, [("make", ())]).number, 0)

    def test_a_second_make(self):
        self.assertEqual(refused(self, BadPolicy, Policy, [SECOND, THIRD, SECOND]).number, 2)
        self.assertEqual(refused(self, BadPolicy, Policy, [SECOND, THIRD, SECOND, 5]).number, 2)
        self.assertEqual(refused(self, BadPolicy, Policy, [SECOND, 5, SECOND]).number, 1)

    def test_what_is_no_list(self):
        for rules in (None, 5, "raise", {THIRD: 1}, {THIRD}):
            self.assertIsNone(refused(self, BadPolicy, Policy, rules).number)

    def test_what_is_no_rule(self):
        for rule in (None, 5, "raise", (), ("make",), ("raise", "a"), ("raise", "a", "b", "c"), ["raise", "a", "b"],
                     ("meet", "a", "b"), ("meet", "a", "b", "c", "d"), ("lift", "a", "b"), (1, "a", "b"),
                     (["raise"], "a", "b"), ("raise", "a", 1), ("raise", "A", "b"), ("raise", True, "b"),
                     ("fetch", "a"), ("fetch", "a", "b"), ("fetch", "a", ("b", "c")), ("fetch", "a", [["b", "c"]]),
                     ("fetch", "a", [("b", "c", "d")]), ("fetch", "a", [("b", "c"), ("b", "c")]),
                     ("fetch", "a", [("b", "C")]), ("fetch", 1, [("b", "c")]), ("fetch", "a", [("b", "c")], "d"),
                     ("hand", "a", {("b", "c"): 1}), ("hand", "a", None), ("hand", "a", [("b", "c"), 5]),
                     ("make", "own"), ("make", ["own", "own"]), ("make", ["Own"]), ("make", ["own"], ["use"]),
                     ("make", [["own"]]), ("make", None), ("lift", ["own"]), ("raise", ["own"]), ("fetch", [("a", "b")]), ("meet", ()), ("raise", "a", "abcdefghi")):
            self.assertEqual(refused(self, BadPolicy, Policy, [THIRD, rule, 5]).number, 1, rule)

    def test_what_is_given_is_copied(self):
        pairs, words = [("use", "use")], ["own"]
        rules = [("fetch", "ask", pairs), ("make", words)]
        policy = Policy(rules)
        pairs.append(("a", "b"))
        words.append("use")
        rules.clear()
        self.assertEqual(policy.rules, (("fetch", "ask", (("use", "use"),)), ("make", ("own",))))


if __name__ == "__main__":
    unittest.main()
