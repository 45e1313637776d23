import random
import time
import unittest

from handedkeys.deeds import done
from handedkeys.errors import BadNumber, BadPolicy
from handedkeys.following import (Does, Lacks, are_alike, bare_state, joined, judge_follows, lean, needless)
from handedkeys.policies import Policy
from handedkeys.states import State
from tests.tools import plain_deeds, plain_rounds, random_policy, random_state, refused

POLICY = Policy([("fetch", "take", [("own", "use"), ("use", "use")]), ("raise", "own", "lend"), ("make", ["own", "take"]),
                 ("meet", "own", "lend", "use"), ("hand", "lend", [("own", "use")])])
CHAIN = Policy([("raise", "a", "b"), ("raise", "b", "c")])
LETTERS = "abcdefghijklmnop"


def plain_follows(policy, other):
    """Whether the other policy brings in each bare state what the policy's rule brings there."""
    for number, rule in enumerate(policy):
        if rule[0] == "make":
            since = plain_rounds(other, State(["ann"], []))
            if any(("ann", word, "ann+") not in since for word in rule[1]):
                return False
        for pair in rule[2] if rule[0] in ("fetch", "hand") else [None]:
            state, brought = bare_state(policy, number, pair)
            if any(right not in plain_rounds(other, state) for right in brought):
                return False
    return True


def random_pair(rnd):
    """Two policies that often do much of one another."""
    words = list("abc")[:rnd.randint(1, 3)]
    one = random_policy(rnd, words, rnd.randint(0, 4), rnd.random() < 0.4)
    other = random_policy(rnd, words, rnd.randint(0, 5), rnd.random() < 0.5)
    return one, other


class BareTest(unittest.TestCase):

    def test_each_kind_of_rule(self):
        three, two = (["ann"], ["box", "cup"]), (["ann"], ["box"])
        for number, pair, state, brought in (
                (0, ("own", "use"), State(*three, [("ann", "take", "box"), ("box", "own", "cup")]), [("ann", "use", "cup")]),
                (4, ("own", "use"), State(*three, [("ann", "lend", "box"), ("ann", "own", "cup")]), [("box", "use", "cup")]),
                (1, None, State(*two, [("ann", "own", "box")]), [("ann", "lend", "box")]),
                (3, None, State(*two, [("ann", "own", "box"), ("ann", "lend", "box")]), [("ann", "use", "box")]),
                (2, None, State(["ann"], []), [])):
            found = bare_state(POLICY, number, pair)
            self.assertIs(type(found), tuple)
            self.assertTrue(found[0] == state and found[1] == brought, number)
        self.assertEqual(bare_state(POLICY, 1)[1], [("ann", "lend", "box")])
        self.assertEqual(bare_state(Policy([("raise", "a", "a")]), 0)[1], [("ann", "a", "box")])
        self.assertEqual(len(bare_state(Policy([("meet", "a", "a", "b")]), 0)[0]), 1)

    def test_what_is_no_rule_and_its_pair(self):
        for number, pair in ((5, None), (-1, None), (True, None), (None, None), ("1", None), (0, None), (4, None), (0, ("use", "own")),
                             (0, ["own", "use"]), (1, ("own", "use")), (2, ("own", "take")), (3, "own"), (False, ("own", "use")),
                             (0, "own"), (1, False), (1, ()), ([0], None)):
            refused(self, BadNumber, bare_state, POLICY, number, pair)
        refused(self, BadNumber, bare_state, POLICY, 0)
        self.assertIsNone(refused(self, BadPolicy, bare_state, POLICY.rules, 9).number)

    def test_what_is_returned_is_new(self):
        bare_state(POLICY, 1)[1].clear()
        self.assertEqual(bare_state(POLICY, 1)[1], [("ann", "lend", "box")])


class FollowsTest(unittest.TestCase):

    def test_by_several_deeds(self):
        once = Policy([("raise", "a", "c")])
        found = judge_follows(once, CHAIN)
        self.assertTrue(found == Does({(0, None): [(0, "ann", "box"), (1, "ann", "box")]}))
        lacks = judge_follows(CHAIN, once)
        self.assertTrue(lacks == Lacks(0, None))
        self.assertTrue(judge_follows(CHAIN.without(0), CHAIN) and not judge_follows(CHAIN, CHAIN.without(0)))
        self.assertEqual(judge_follows(CHAIN, CHAIN.without(0)).number, 0)

    def test_by_made_things(self):
        fetch = Policy([("fetch", "see", [("own", "use")])])
        hand = Policy([("fetch", "see", [("own", "own")]), ("make", ["give", "take"]), ("hand", "give", [("own", "own")]),
                       ("fetch", "take", [("own", "use")])])
        found = judge_follows(fetch, hand)
        self.assertTrue(found and found.shows(fetch, hand))
        self.assertEqual([len(deeds) for deeds in found.ways.values()], [4])
        self.assertFalse(judge_follows(fetch, hand.without(1)))
        self.assertFalse(judge_follows(fetch, Policy([("make", ["give"])]) + hand.without(1)))

    def test_a_make_in_one_and_none_in_the_other(self):
        make = Policy([("make", ["a", "b"])])
        self.assertTrue(judge_follows(make, CHAIN) == Lacks(0, None))
        self.assertTrue(judge_follows(CHAIN, CHAIN + make))
        self.assertTrue(judge_follows(CHAIN + make, CHAIN) == Lacks(2, None))
        self.assertTrue(judge_follows(make, Policy([("raise", "a", "b"), ("make", ["a"])])) == Does({}))
        self.assertTrue(judge_follows(make, Policy([("raise", "b", "c"), ("make", ["a"])])) == Lacks(0, None))
        self.assertTrue(judge_follows(Policy([]), make) == Does({}))
        self.assertTrue(judge_follows(make, make) == Does({}))

    def test_the_first_rule_and_pair_that_is_lacking(self):
        other = Policy([("raise", "own", "lend"), ("fetch", "take", [("own", "use")])])
        self.assertTrue(judge_follows(POLICY, other) == Lacks(0, ("use", "use")))
        self.assertTrue(judge_follows(POLICY, Policy([])) == Lacks(0, ("own", "use")))
        self.assertTrue(judge_follows(POLICY, POLICY.without(4)) == Lacks(4, ("own", "use")))

    def test_against_working_it_out_plainly(self):
        rnd = random.Random(31)
        seen = set()
        for _ in range(1500):
            one, other = random_pair(rnd)
            found = judge_follows(one, other)
            seen.add((type(found), one.made() is None, other.made() is None, len(one) > 2))
            self.assertEqual(bool(found), plain_follows(one, other))
            self.assertTrue(found.shows(one, other))
            self.assertEqual(are_alike(one, other), plain_follows(one, other) and plain_follows(other, one))
            if found:
                self.assertEqual(sorted(found.ways, key=str), sorted(
                    [(number, pair) for number, rule in enumerate(one) if rule[0] != "make"
                     for pair in (rule[2] if len(rule) == 3 and rule[0] != "raise" else [None])], key=str))
                for (number, pair), deeds in found.ways.items():
                    state, brought = bare_state(one, number, pair)
                    self.assertIn(brought[0], done(other, state, deeds))
        self.assertGreater(len(seen), 9)

    def test_what_a_policy_does_in_all_states(self):
        rnd = random.Random(32)
        follows = 0
        for _ in range(1500):
            one, other = random_pair(rnd)
            if not judge_follows(one, other):
                continue
            follows += 1
            state = random_state(rnd, one.words() or ["a"], rnd.randint(1, 3), rnd.randint(0, 2), rnd.randint(1, 6))
            makers, now = {}, state
            for number in range(5):
                options = [deed for deed, right in plain_deeds(one, now.people, now.parties(), set(now.rights)) if right not in now]
                if one.made() is not None:
                    name = "new" + "abcde"[number]
                    options.append(([rule[0] for rule in one].index("make"), rnd.choice(now.people), name))
                if options:
                    deed = rnd.choice(options)
                    if len(deed) == 3 and one[deed[0]][0] == "make":
                        makers[deed[2]] = deed[1] + "+"
                    now = done(one, now, [deed])
            since = plain_rounds(other, state)
            for first, word, second in now:
                self.assertIn((makers.get(first, first), word, makers.get(second, second)), since)
        self.assertGreater(follows, 200)


class EvidenceTest(unittest.TestCase):

    def test_changed_ways(self):
        one, other = Policy([("raise", "a", "c"), ("fetch", "x", [("y", "y")])]), CHAIN + Policy([("fetch", "x", [("y", "y")])])
        way, deed = [(0, "ann", "box"), (1, "ann", "box")], (2, "ann", "box", "cup", ("y", "y"))
        good = {(0, None): way, (1, ("y", "y")): [deed]}
        found = judge_follows(one, other)
        self.assertTrue(found == Does(good))
        for ways, holds in ((good, True), ({(0, None): tuple(way), (1, ("y", "y")): [list(deed)]}, True),
                            ({(0, None): way}, False), ({}, False), ({**good, (2, None): []}, False),
                            ({**good, (0, None): way[:1]}, False), ({**good, (0, None): way[::-1]}, False),
                            ({**good, (0, None): way + way}, True), ({(0, None): way, (1, ("y", "z")): [deed]}, False),
                            ({(0, None): way, (1, None): [deed]}, False), ({**good, (1, ("y", "y")): [(1,) + deed[1:]]}, False),
                            ({**good, (1, ("y", "y")): []}, False), ({**good, (1, ("y", "y")): [deed, way[0]]}, False)):
            found.ways = ways
            self.assertEqual(found.shows(one, other), holds, ways)
        self.assertFalse(Does({}).shows(one, other))

    def test_ways_with_a_make(self):
        make, less = Policy([("make", ["a"])]), Policy([("make", ["b"])])
        self.assertTrue(Does({}).shows(make, make) and Does({}).shows(less, make + CHAIN))
        self.assertFalse(Does({}).shows(make, less) or Does({}).shows(make, CHAIN))
        self.assertFalse(Does({(0, None): []}).shows(make, make))

    def test_changed_lacks(self):
        other = POLICY.without(1, 2)
        found = judge_follows(POLICY, other)
        self.assertEqual([found.number, found.pair], [1, None])
        for number, pair, holds in ((1, None, True), (2, None, True), (0, ("own", "use"), False), (0, None, False),
                                    (3, None, False), (5, None, False), (-1, None, False), (4, ("own", "use"), False),
                                    (1, ("own", "use"), False)):
            found.number, found.pair = number, pair
            self.assertEqual(found.shows(POLICY, other), holds, (number, pair))
        self.assertTrue(Lacks(0, ("own", "use")).shows(POLICY, Policy([])))
        self.assertTrue(Lacks(0, ["own", "use"]).shows(POLICY, Policy([])))
        self.assertFalse(Lacks(0, ("own", "own")).shows(POLICY, Policy([])))

    def test_bool_and_equality(self):
        self.assertTrue(bool(Does({})) is True and bool(Lacks(0, None)) is False)
        self.assertTrue(Lacks(0, ("a", "b")) == Lacks(0, ["a", "b"]))
        lacks = Lacks(0, ("own", "use"))
        lacks.pair = ["own", "use"]
        self.assertTrue(lacks == Lacks(0, ("own", "use")) and Lacks(0, ("own", "use")) == lacks)
        self.assertTrue(lacks.shows(POLICY, Policy([])))
        self.assertFalse(lacks == (0, ("own", "use")))
        pair = ["own", "use"]
        lacks = Lacks(0, pair)
        pair.clear()
        self.assertTrue(lacks == Lacks(0, ("own", "use")))
        for one, other in ((Does({}), Lacks(0, None)), (Lacks(0, None), Lacks(1, None)), (Lacks(0, ("a", "b")), Lacks(0, None)),
                           (Does({}), Does({(0, None): []})), (Does({}), {})):
            self.assertFalse(one == other)
        self.assertTrue(Does({(0, None): [(0, "ann", "box")]}) == Does({(0, None): ([0, "ann", "box"],)}))

    def test_what_is_given_is_copied(self):
        ways = {(0, None): [[0, "ann", "box"]]}
        found = Does(ways)
        ways[0, None][0].clear()
        ways[1, None] = []
        self.assertTrue(found == Does({(0, None): [(0, "ann", "box")]}))

    def test_errors_in_order(self):
        for call in (judge_follows, are_alike, joined, Does({}).shows, Lacks(0, None).shows):
            for one, other in ((None, POLICY), (POLICY, None), (POLICY.rules, 5), (POLICY, State(["ann"], []))):
                self.assertIsNone(refused(self, BadPolicy, call, one, other).number)
        for call in (needless, lean):
            self.assertIsNone(refused(self, BadPolicy, call, [("raise", "a", "b")]).number)


class LeanTest(unittest.TestCase):

    def test_needless(self):
        long = CHAIN + Policy([("raise", "a", "c"), ("make", ["a"])])
        self.assertEqual(needless(long), [2])
        self.assertEqual(needless(Policy([("raise", "a", "b")] * 3)), [0, 1, 2])
        self.assertEqual(needless(Policy([("raise", "a", "a"), ("make", ["a"])])), [0])
        self.assertEqual(needless(Policy([])), [])
        self.assertEqual(needless(Policy([("fetch", "a", [("a", "a"), ("b", "b")]), ("fetch", "a", [("a", "a")])])), [1])

    def test_lean_goes_from_the_last_rule(self):
        self.assertTrue(lean(Policy([("raise", "a", "b")] * 3)) == Policy([("raise", "a", "b")]))
        ring = Policy([("raise", "a", "b"), ("raise", "b", "a"), ("meet", "a", "a", "b"), ("meet", "b", "b", "a")])
        self.assertTrue(lean(ring) == ring.without(2, 3))
        self.assertTrue(lean(Policy(ring.rules[::-1])) == Policy(ring.rules[:1:-1]))

    def test_against_working_it_out_plainly(self):
        rnd = random.Random(33)
        for _ in range(300):
            policy = random_policy(rnd, ["a", "b"], rnd.randint(0, 6), rnd.random() < 0.4)
            self.assertEqual(needless(policy), [number for number in range(len(policy))
                                                if plain_follows(policy, policy.without(number))])
            left = policy
            for number in reversed(range(len(policy))):
                if plain_follows(policy, left.without(number)):
                    left = left.without(number)
            self.assertTrue(lean(policy) == left)
            self.assertTrue(are_alike(policy, left))

    def test_twelve_rules_with_nine_pairs_are_quick(self):
        words = [one + other for one in "abc" for other in "abcdef"]
        rnd = random.Random(34)
        rules = [(kind, rnd.choice(words), sorted(set((rnd.choice(words), rnd.choice(words)) for _ in range(9))))
                 for kind in ("fetch", "hand") * 6]
        start = time.perf_counter()
        policy = Policy(rules[:11] + [("make", words[:9])])
        self.assertTrue(are_alike(lean(policy), policy))
        self.assertTrue(needless(policy) is not None)
        joined(Policy(rules[:5]), Policy(rules[:2] + rules[7:9]))
        self.assertLess(time.perf_counter() - start, 10)


class JoinedTest(unittest.TestCase):

    def test_whole_rules_that_are_not_done_already(self):
        other = Policy([("raise", "a", "c"), ("fetch", "a", [("a", "a"), ("b", "b")]), ("raise", "c", "d")])
        self.assertTrue(joined(CHAIN, other) == Policy(CHAIN.rules + other.rules[1:]))
        self.assertTrue(joined(CHAIN, CHAIN) == CHAIN)
        self.assertTrue(joined(Policy([]), CHAIN) == CHAIN)
        self.assertTrue(joined(CHAIN, Policy([])) == CHAIN)
        part = Policy([("fetch", "a", [("a", "a")])])
        self.assertTrue(joined(part, other) == Policy(part.rules + other.rules))

    def test_rules_behind_count(self):
        ring = Policy([("raise", "a", "b"), ("raise", "b", "c"), ("raise", "a", "c")])
        self.assertTrue(joined(Policy([]), ring) == ring.without(2))
        self.assertTrue(joined(Policy([]), Policy(ring.rules[::-1])) == Policy(ring.rules[::-1]))
        self.assertTrue(joined(ring, ring) == ring)

    def test_makes(self):
        one, other = Policy([("make", ["b"]), ("raise", "b", "a")]), Policy([("raise", "c", "d"), ("make", ["a", "c"])])
        self.assertEqual(joined(one, other).rules, (("make", ("a", "b", "c")), ("raise", "b", "a"), ("raise", "c", "d")))
        self.assertEqual(joined(one, Policy([("make", ["a"])])).rules, (("make", ("a", "b")), ("raise", "b", "a")))
        self.assertEqual(joined(CHAIN, other).rules, CHAIN.rules + other.rules)
        self.assertTrue(joined(other, other) == other)
        # the rule ahead of the other one's make is judged ahead of it, the rule behind with the words put in
        helped = Policy([("make", ["give", "take"]), ("fetch", "see", [("own", "use")])])
        base = Policy([("fetch", "see", [("own", "own")]), ("hand", "give", [("own", "own")]), ("fetch", "take", [("own", "use")]),
                       ("make", ["give"])])
        self.assertEqual(joined(base, helped).rules, base.rules[:3] + (("make", ("give", "take")),))
        self.assertEqual(joined(base, Policy(helped.rules[::-1])).rules,
                         base.rules[:3] + (("make", ("give", "take")),) + helped.rules[1:])

    def test_more_than_twelve_rules(self):
        many = Policy([("raise", letter, other) for letter, other in zip(LETTERS[:12:2], LETTERS[1:12:2])])
        more = Policy([("raise", other, letter) for letter, other in zip(LETTERS[:12:2], LETTERS[1:12:2])])
        twelve = joined(many, more)
        self.assertEqual(len(twelve), 12)
        self.assertTrue(joined(twelve, many + more) == twelve)
        self.assertIsNone(refused(self, BadPolicy, joined, twelve, Policy([("raise", "y", "z")])).number)
        self.assertTrue(joined(twelve, Policy([("raise", "a", "a")])) == twelve)
        self.assertIsNone(refused(self, BadPolicy, joined, twelve, Policy([("make", ["a"])])).number)

    def test_more_than_nine_words(self):
        one, other = Policy([("raise", "x", "y"), ("make", list("abcde"))]), Policy([("make", list("efghi"))])
        self.assertEqual(joined(one, other).made(), tuple("abcdefghi"))
        ten = Policy([("raise", "y", "z"), ("make", list("efghij"))])
        self.assertEqual(refused(self, BadPolicy, joined, one, ten).number, 1)
        eleven = Policy([("raise", "x", letter) for letter in LETTERS[:11]] + [("make", list("abcde"))])
        self.assertIsNone(refused(self, BadPolicy, joined, eleven, ten).number)
        self.assertEqual(refused(self, BadPolicy, joined, eleven.without(0), Policy([("make", list("fghij"))])).number, 10)

    def test_it_does_what_both_do(self):
        rnd = random.Random(35)
        for _ in range(200):
            one, other = random_pair(rnd)
            both = joined(one, other)
            self.assertTrue(judge_follows(one, both) and judge_follows(other, both))
            self.assertTrue(one.made() is not None or both.rules[:len(one)] == one.rules)


if __name__ == "__main__":
    unittest.main()
