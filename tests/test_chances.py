import fractions
import itertools
import math
import random
import time
import unittest

from handedkeys.chances import chance, count_help, enough_sets, weight_of
from handedkeys.errors import BadNumber, BadParty, BadPolicy, BadRight, BadState, TooLarge
from handedkeys.policies import Policy
from handedkeys.states import State
from tests.tools import BOTH, FETCH, GRANT, all_rights, cases, plain_rounds, refused

STATE = State(["ann", "bob", "cat"], ["box"], [("ann", "use", "box"), ("ann", "give", "bob"), ("bob", "give", "cat"), ("cat", "take", "bob")])
GOAL = ("cat", "use", "box")
HALF = {"ann": (1, 2), "bob": (1, 2), "cat": (1, 2)}
LETTERS = "abcdefghijklm"


def plain_enough(policy, state, right):
    """All sets of people by whose deeds a right comes up, smaller ones first."""
    return [group for many in range(len(state.people) + 1) for group in itertools.combinations(state.people, many)
            if right in plain_rounds(policy, state, group)]


class EnoughTest(unittest.TestCase):

    def test_rights_that_are_there_that_never_come_and_others(self):
        every = [(), ("ann",), ("bob",), ("cat",), ("ann", "bob"), ("ann", "cat"), ("bob", "cat"), ("ann", "bob", "cat")]
        self.assertEqual(enough_sets(BOTH, STATE, ("ann", "use", "box")), every)
        self.assertEqual(count_help(BOTH, STATE, ("ann", "use", "box")), [1, 3, 3, 1])
        self.assertEqual(enough_sets(BOTH, STATE, ("box", "use", "ann")), [])
        self.assertEqual(count_help(BOTH, STATE, ("box", "use", "ann")), [0, 0, 0, 0])
        self.assertEqual(enough_sets(BOTH, STATE, GOAL), [("ann", "bob"), ("ann", "cat"), ("ann", "bob", "cat")])
        self.assertEqual(count_help(BOTH, STATE, GOAL), [0, 0, 2, 1])
        self.assertEqual([weight_of(BOTH, STATE, GOAL, name) for name in STATE.people], [3, 1, 1])
        self.assertEqual([weight_of(BOTH, STATE, ("ann", "use", "box"), "ann"), weight_of(BOTH, STATE, ("box", "use", "ann"), "ann")], [0, 0])

    def test_nobody(self):
        state = State([], ["box"], [("box", "use", "box")])
        self.assertEqual([enough_sets(FETCH, state, ("box", "use", "box")), count_help(FETCH, state, ("box", "use", "box"))], [[()], [1]])
        self.assertEqual([enough_sets(FETCH, state, ("box", "own", "box")), count_help(FETCH, state, ("box", "own", "box"))], [[], [0]])
        self.assertEqual(chance(FETCH, state, ("box", "use", "box"), {}), (1, 1))
        self.assertEqual(chance(FETCH, state, ("box", "own", "box"), {}), (0, 1))

    def test_against_going_through_all_sets(self):
        rnd = random.Random(141)
        seen = set()
        for policy, state in itertools.chain(cases(142, 60, people=(1, 4), rights=(1, 8)), cases(143, 12, "ab", people=(4, 5), rights=(3, 9))):
            for right in all_rights(state, "ab")[::3]:
                sets = plain_enough(policy, state, right)
                self.assertEqual(enough_sets(policy, state, right), sets)
                self.assertEqual(count_help(policy, state, right), [len([one for one in sets if len(one) == many])
                                                                   for many in range(len(state.people) + 1)])
                given = {name: (rnd.randint(0, 3), rnd.randint(3, 9)) for name in reversed(state.people)}
                self.check_chance(policy, state, right, sets, given)
                for name in state.people:
                    weight = len([one for one in sets if name in one and tuple(other for other in one if other != name) not in sets])
                    self.assertEqual(weight_of(policy, state, right, name), weight)
                    seen.add(weight)
        self.assertTrue({0, 1, 2, 3} <= seen)

    def check_chance(self, policy, state, right, sets, given):
        total = fractions.Fraction(0)
        for group in sets:
            share = fractions.Fraction(1)
            for name in state.people:
                willing = fractions.Fraction(*given[name])
                share *= willing if name in group else 1 - willing
            total += share
        self.assertEqual(chance(policy, state, right, given), (total.numerator, total.denominator))


class ChanceTest(unittest.TestCase):

    def test_chances_in_lowest_terms(self):
        self.assertEqual(chance(BOTH, STATE, GOAL, HALF), (3, 8))
        self.assertEqual(chance(BOTH, STATE, GOAL, {"ann": (2, 4), "bob": (500, 1000), "cat": (3, 6)}), (3, 8))
        self.assertEqual(chance(BOTH, STATE, GOAL, {"cat": (1, 3), "bob": (1, 3), "ann": (3, 3)}), (5, 9))

    def test_chances_nought_and_one(self):
        for ann, bob, cat, told in ((1, 1, 1, (1, 1)), (0, 1, 1, (0, 1)), (1, 0, 0, (0, 1)), (1, 0, 1, (1, 1)), (0, 0, 0, (0, 1))):
            self.assertEqual(chance(BOTH, STATE, GOAL, {"ann": (ann, 1), "bob": (bob * 7, 7), "cat": (cat * 1000, 1000)}), told)
        self.assertEqual(chance(BOTH, STATE, ("ann", "use", "box"), HALF), (1, 1))
        self.assertEqual(chance(BOTH, STATE, ("box", "use", "ann"), HALF), (0, 1))

    def test_wrong_dicts(self):
        for wrong in ((1, 0), (0, 0), (1, 1001), (2, 1), (-1, 2), (1, -1), (True, 2), (1, True), (False, True), [1, 2], (1,), (1, 2, 3), 1,
                      None, "12", (1, "2"), (1.0, 2), ("1", 2), (1, 2.0)):
            refused(self, BadNumber, chance, BOTH, STATE, GOAL, {"ann": (1, 2), "bob": wrong, "cat": (1, 2)})
        for wrong in (None, [], "", {}, {"ann": (1, 2), "bob": (1, 2)}, {**HALF, "dan": (1, 2)}, {**HALF, "box": (1, 2)}, {**HALF, 1: (1, 2)},
                      {"ann": (1, 2), "bob": (1, 2), "box": (1, 2)}, list(HALF.items()), [("ann", (1, 2))] * 3):
            refused(self, BadNumber, chance, BOTH, STATE, GOAL, wrong)
        self.assertEqual(chance(BOTH, STATE, GOAL, {**HALF, "ann": (1, 1000)}), (3, 4000))
        self.assertEqual(chance(BOTH, STATE, GOAL, {**HALF, "ann": (1000, 1000)}), (3, 4))

    def test_arguments_stay(self):
        given = dict(HALF)
        chance(BOTH, STATE, GOAL, given)
        enough_sets(BOTH, STATE, GOAL).clear()
        count_help(BOTH, STATE, GOAL).clear()
        self.assertEqual([given, len(enough_sets(BOTH, STATE, GOAL)), count_help(BOTH, STATE, GOAL)], [HALF, 3, [0, 0, 2, 1]])

    def test_eight_people_and_nine(self):
        ring = [(one, "take", other) for one, other in zip(LETTERS[:11], LETTERS[1:12])]
        eight, nine = (State(list(LETTERS[:many]), list(LETTERS[many:12]), ring) for many in (8, 9))
        right = ("a", "take", "c")
        self.assertEqual(len(enough_sets(FETCH, eight, right)), 128)
        self.assertEqual(count_help(FETCH, eight, right), [0] + [math.comb(7, many) for many in range(8)])
        self.assertEqual(chance(FETCH, eight, right, {name: (1, 3) for name in eight.people}), (1, 3))
        self.assertEqual([weight_of(FETCH, eight, right, "a"), weight_of(FETCH, eight, right, "b")], [128, 0])
        given = {name: (1, 3) for name in nine.people}
        for call, rest in ((enough_sets, []), (count_help, []), (chance, [given]), (weight_of, ["a"])):
            refused(self, TooLarge, call, FETCH, nine, right, *rest)
            refused(self, TooLarge, call, FETCH, nine, ("a", "take", "b"), *rest)
            refused(self, BadRight, call, FETCH, nine, ("a", "take", "z"), *rest)
        refused(self, BadNumber, chance, FETCH, nine, right, {"a": (1, 3)})
        self.assertEqual(refused(self, BadParty, weight_of, FETCH, nine, right, "l").name, "l")

    def test_errors_in_order(self):
        large = State(list(LETTERS), [])
        for call, rest in ((enough_sets, []), (count_help, []), (chance, ["bad"]), (weight_of, ["bad"])):
            self.assertIsNone(refused(self, BadPolicy, call, None, None, "bad", *rest).number)
            self.assertIsNone(refused(self, BadState, call, BOTH, None, "bad", *rest).part)
            refused(self, TooLarge, call, BOTH, large, "bad", *rest)
            for right in ("bad", list(GOAL), ("cat", "use", "tin"), ("cat", "use"), None):
                refused(self, BadRight, call, BOTH, STATE, right, *rest)
        for name in ("box", "dan", None, 1, ["ann"]):
            self.assertEqual(refused(self, BadParty, weight_of, BOTH, STATE, GOAL, name).name, name)

    def test_many_rights_at_the_bounds_are_quick(self):
        rnd = random.Random(144)
        words = [one + other for one in "abc" for other in "abcdef"]
        names = ["p" + letter for letter in LETTERS[:12]]
        start = time.perf_counter()
        for number in range(3):
            policy = Policy([(kind, rnd.choice(words[:4]), sorted(set((rnd.choice(words), rnd.choice(words)) for _ in range(9))))
                             for kind in ("fetch", "hand") * 5] + [("make", words[:9])])
            state = State(names[:8], names[8:], [(rnd.choice(names), rnd.choice(words), rnd.choice(names)) for _ in range(40)])
            for right in rnd.sample(all_rights(state, words), 3):
                chance(policy, state, right, {name: (999 - number, 1000) for name in state.people})
                weight_of(policy, state, right, "pa")
        self.assertLess(time.perf_counter() - start, 12)


if __name__ == "__main__":
    unittest.main()
