import itertools
import random
import time
import unittest

from handedkeys.errors import BadPolicy, TooLarge
from handedkeys.following import are_alike, bare_state, judge_follows
from handedkeys.policies import Policy
from handedkeys.rulesets import compared, fewest_rules, least_rules, missing, shared
from tests.tools import plain_rounds, random_policy, refused

POLICY = Policy([("raise", "own", "use"), ("raise", "own", "lend"), ("raise", "lend", "use")])
LETTERS = "abcdefghijklm"


def plain_does(doing, policy, number, pair):
    """Whether a policy does what a rule of another one does with its pair, by the rounds of the bare state."""
    rule = policy[number]
    state, brought = bare_state(policy, number, pair)
    come = plain_rounds(doing, state)
    if rule[0] == "make":
        return all(("ann", word, "ann+") in come for word in rule[1])
    return all(right in come for right in brought)


def plain_cases(policy):
    """The pairs of a number and a pair of all rules."""
    return [(number, pair) for number, rule in enumerate(policy) for pair in (rule[2] if rule[0] in ("fetch", "hand") else [None])]


def plain_enough(policy):
    """All sets of numbers of rules that do all, the smaller ones first."""
    numbers = range(len(policy))
    return [group for many in range(len(policy) + 1) for group in itertools.combinations(numbers, many)
            if all(plain_does(policy.without(*[one for one in numbers if one not in group]), policy, *case) for case in plain_cases(policy))]


class LeastRulesTest(unittest.TestCase):

    def test_one_set_several_and_the_empty_one(self):
        self.assertEqual([least_rules(POLICY), fewest_rules(POLICY)], [[(1, 2)], 2])
        twins = Policy([("raise", "a", "b"), ("raise", "b", "a"), ("raise", "a", "b")])
        self.assertEqual([least_rules(twins), fewest_rules(twins)], [[(0, 1), (1, 2)], 2])
        for rules in ([], [("raise", "a", "a")], [("meet", "a", "b", "a"), ("meet", "b", "a", "a")], [("raise", "a", "a")] * 7):
            self.assertEqual([least_rules(Policy(rules)), fewest_rules(Policy(rules))], [[()], 0])
        ring = Policy([("raise", one, other) for one, other in ("ab", "ac", "ba", "bc", "ca", "cb")])
        self.assertEqual(least_rules(ring), [(0, 3, 4), (1, 2, 5), (0, 1, 2, 4), (0, 2, 3, 5), (1, 3, 4, 5)])
        self.assertEqual(fewest_rules(ring), 3)

    def test_makes(self):
        policy = Policy([("make", ["own", "use"]), ("raise", "own", "use"), ("raise", "use", "own")])
        self.assertEqual(least_rules(policy), [(0, 1, 2)])
        needless = Policy([("raise", "own", "own"), ("make", ["own"]), ("meet", "own", "own", "own")])
        self.assertEqual([least_rules(needless), fewest_rules(needless)], [[(1,)], 1])

    def test_against_going_through_all_sets(self):
        rnd = random.Random(181)
        seen = set()
        for number in range(120):
            words = ["a", "b", "c"][:rnd.randint(1, 3)]
            policy = random_policy(rnd, words, rnd.randint(0, 4), number % 2 == 1)
            enough = plain_enough(policy)
            least = [one for one in enough if not any(set(less) < set(one) for less in enough)]
            self.assertEqual(least_rules(policy), least, policy.rules)
            self.assertEqual(fewest_rules(policy), len(enough[0]))
            seen |= {len(least), (len(policy), len(least[0]))}
            for numbers in least:
                self.assertTrue(are_alike(policy, Policy([policy[one] for one in numbers])))
        self.assertTrue({1, 2, (3, 0), (3, 1), (4, 2), (4, 4)} <= seen, seen)

    def test_seven_rules_and_eight(self):
        start = time.perf_counter()
        rnd = random.Random(182)
        words = [one + other for one in "abcd" for other in "abcde"]
        for many in (1, 3, 20):
            seven = Policy([(kind, rnd.choice(words[:many]), sorted(set((rnd.choice(words[:many]), rnd.choice(words[:many])) for _ in range(9))))
                            for kind in ("fetch", "hand") * 3] + [("make", words[:min(many, 9)])])
            self.assertTrue(least_rules(seven))
            self.assertEqual(fewest_rules(seven), len(least_rules(seven)[0]))
        self.assertLess(time.perf_counter() - start, 8)
        eight = Policy([("raise", "a", "b")] * 8)
        self.assertEqual(least_rules(Policy(eight.rules[1:])), [(number,) for number in range(7)])
        refused(self, TooLarge, least_rules, eight)
        refused(self, TooLarge, fewest_rules, eight)

    def test_refusals(self):
        for call in (least_rules, fewest_rules):
            for policy in (None, POLICY.rules, "policy", 5):
                self.assertIsNone(refused(self, BadPolicy, call, policy).number)
        for call in (missing, shared, compared):
            for policies in ((None, None), (POLICY, None), (None, POLICY), (POLICY, POLICY.rules)):
                self.assertIsNone(refused(self, BadPolicy, call, *policies).number)


class ComparingTest(unittest.TestCase):

    def test_missing(self):
        two = Policy([("fetch", "take", [("read", "read"), ("read", "see"), ("write", "write")]), ("raise", "write", "read"), ("make", ["take", "write"])])
        one = Policy([("fetch", "take", [("write", "write")]), ("raise", "write", "read"), ("make", ["take", "read"])])
        self.assertEqual(missing(two, one), [(0, ("read", "read")), (0, ("read", "see")), (2, None)])
        self.assertEqual(missing(one, two), [])
        self.assertEqual(missing(two, Policy([])), [(0, ("read", "read")), (0, ("read", "see")), (0, ("write", "write")), (1, None), (2, None)])
        self.assertEqual([missing(POLICY, POLICY), missing(Policy([]), POLICY)], [[], []])

    def test_shared(self):
        two = Policy([("fetch", "take", [("read", "read"), ("read", "see"), ("write", "write")]), ("raise", "write", "read"), ("make", ["take", "write"]),
                      ("hand", "give", [("read", "read"), ("write", "read")]), ("meet", "take", "write", "own")])
        one = Policy([("hand", "give", [("write", "write")]), ("fetch", "take", [("write", "write"), ("read", "see")]), ("raise", "write", "read"),
                      ("make", ["take", "read", "write"])])
        self.assertTrue(shared(two, one) == Policy([("fetch", "take", [("read", "see"), ("write", "write")]), ("raise", "write", "read"),
                                                    ("make", ["take", "write"])]))
        self.assertTrue(shared(one, two) == Policy([("fetch", "take", [("read", "see"), ("write", "write")]), ("raise", "write", "read"),
                                                    ("make", ["read", "take", "write"])]))
        self.assertTrue(shared(one, two.without(1)) == Policy([("fetch", "take", [("read", "see"), ("write", "write")])]))
        self.assertTrue(shared(two, Policy([])) == Policy([]) and shared(two, two) == two and shared(Policy([]), two) == Policy([]))
        handed = Policy([("hand", "give", [("write", "write")]), ("raise", "write", "read")])
        self.assertTrue(shared(Policy([("hand", "give", [("read", "read"), ("write", "read"), ("write", "write")])]), handed)
                        == Policy([("hand", "give", [("write", "write")])]))

    def test_each_of_the_four_answers(self):
        lean, other = Policy(POLICY.rules[1:]), Policy([("raise", "own", "see")])
        self.assertEqual([compared(POLICY, lean), compared(lean, POLICY)], ["same", "same"])
        self.assertEqual([compared(POLICY, POLICY.without(1)), compared(POLICY.without(1), POLICY)], ["more", "less"])
        self.assertEqual([compared(POLICY, other), compared(other, POLICY)], ["unlike", "unlike"])
        self.assertEqual([compared(Policy([]), Policy([])), compared(Policy([]), POLICY), compared(Policy([("raise", "a", "a")]), Policy([]))],
                         ["same", "less", "same"])
        self.assertEqual([compared(Policy([("make", ["a", "b"])]), Policy([("make", ["a"])])), compared(Policy([("make", ["a"])]), Policy([("make", ["b"])])),
                          compared(Policy([]), Policy([("make", ["a"])]))], ["more", "unlike", "less"])

    def test_against_rounds_of_the_bare_states(self):
        rnd = random.Random(183)
        answers, kept = set(), set()
        for number in range(250):
            words = ["a", "b", "c"][:rnd.randint(1, 3)]
            one, other = (random_policy(rnd, words, rnd.randint(0, 4), rnd.random() < 0.5) for _ in range(2))
            lacking = [case for case in plain_cases(one) if not plain_does(other, one, *case)]
            self.assertEqual(missing(one, other), lacking)
            self.assertEqual(bool(judge_follows(one, other)), not lacking)
            back = [case for case in plain_cases(other) if not plain_does(one, other, *case)]
            answer = "unlike" if lacking and back else "more" if lacking else "less" if back else "same"
            self.assertEqual(compared(one, other), answer)
            rules = []
            for at, rule in enumerate(one):
                pairs = [pair for place, pair in plain_cases(one) if place == at and (place, pair) not in lacking]
                if pairs:
                    rules.append((rule[0], rule[1], pairs) if rule[0] in ("fetch", "hand") else rule)
                kept.add((rule[0], len(pairs) > 0, rule[0] in ("fetch", "hand") and 0 < len(pairs) < len(rule[2])))
            self.assertTrue(shared(one, other) == Policy(rules))
            answers.add(answer)
        self.assertEqual(answers, {"same", "more", "less", "unlike"})
        self.assertTrue({("fetch", True, True), ("hand", True, True), ("make", True, False), ("make", False, False), ("meet", True, False)} <= kept)

    def test_the_bounds_are_quick(self):
        rnd = random.Random(184)
        words = [one + other for one in "abcd" for other in "abcde"]
        start = time.perf_counter()
        for many in (2, 5, 20):
            one, other = (Policy([(kind, rnd.choice(words[:many]), sorted(set((rnd.choice(words[:many]), rnd.choice(words[:many])) for _ in range(9))))
                                  for kind in ("fetch", "hand") * 5 + ("fetch",)] + [("make", words[:2])]) for _ in range(2))
            missing(one, other), shared(one, other), compared(one, other)
        self.assertLess(time.perf_counter() - start, 6)


if __name__ == "__main__":
    unittest.main()
