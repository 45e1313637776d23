import itertools
import random
import time
import unittest

from handedkeys.errors import BadParty, BadPolicy, BadRight, BadState, TooLarge
from handedkeys.helping import alone, comes_by, is_theft, least_help, needed_help
from handedkeys.policies import Policy
from handedkeys.states import State
from tests.tools import BOTH, FETCH, all_rights, between, cases, plain_rounds, refused

STATE = State(["ann", "bob", "cat"], ["box"], [("ann", "use", "box"), ("ann", "give", "bob"), ("bob", "give", "cat"),
                                               ("cat", "take", "bob"), ("box", "own", "ann")])
GOAL = ("cat", "use", "box")
LETTERS = "abcdefghijklm"


def enough(policy, state, right):
    """All sets of people by whose deeds a right comes up, smaller ones first."""
    return [group for many in range(len(state.people) + 1) for group in itertools.combinations(state.people, many)
            if right in plain_rounds(policy, state, group)]


class HelpTest(unittest.TestCase):

    def test_none_one_and_several(self):
        self.assertEqual(least_help(BOTH, STATE, GOAL), [("ann", "bob"), ("ann", "cat")])
        self.assertEqual(least_help(BOTH, STATE, ("ann", "use", "box")), [()])
        self.assertEqual(least_help(BOTH, STATE, ("box", "own", "ann")), [()])
        self.assertEqual(least_help(BOTH, STATE, ("bob", "use", "box")), [("ann",)])
        self.assertEqual(least_help(BOTH, STATE, ("box", "use", "ann")), [])
        self.assertEqual(needed_help(BOTH, STATE, GOAL), ["ann"])
        self.assertEqual(needed_help(BOTH, STATE, ("ann", "use", "box")), [])
        self.assertEqual(needed_help(BOTH, STATE, ("box", "use", "ann")), ["ann", "bob", "cat"])
        self.assertEqual(needed_help(FETCH, State([], ["box"]), ("box", "use", "box")), [])
        self.assertEqual(least_help(FETCH, State([], ["box"]), ("box", "use", "box")), [])
        self.assertEqual(least_help(FETCH, State([], ["box"], [("box", "use", "box")]), ("box", "use", "box")), [()])

    def test_comes_by(self):
        for names, holds in (([], False), (["ann"], False), (("cat", "ann"), True), (["bob", "ann", "bob"], True),
                             (["bob", "cat"], False), (["ann", "bob", "cat"], True)):
            self.assertIs(comes_by(BOTH, STATE, GOAL, names), holds)
        self.assertTrue(comes_by(BOTH, STATE, ("ann", "use", "box"), ()))

    def test_people_whose_makes_are_needed(self):
        policy = Policy([("fetch", "take", [("give", "give"), ("use", "use")]), ("hand", "give", [("use", "use")]),
                         ("make", ["take", "give"])])
        state = State(["ann", "bob", "cat"], ["box"], [("bob", "take", "ann"), ("bob", "use", "box")])
        self.assertEqual(least_help(policy, state, ("ann", "use", "box")), [("ann", "bob")])
        self.assertEqual(needed_help(policy, state, ("ann", "use", "box")), ["ann", "bob"])
        lend = Policy([("make", ["lend"]), ("fetch", "take", [("lend", "lend")]), ("hand", "lend", [("use", "own")]),
                       ("fetch", "lend", [("own", "own")])])
        other = State(["ann", "bob"], ["box"], [("bob", "take", "ann"), ("bob", "use", "box")])
        self.assertEqual(least_help(lend, other, ("bob", "own", "box")), [("bob",)])
        self.assertEqual(least_help(lend, other, ("ann", "own", "box")), [("ann", "bob")])

    def test_against_going_through_all_sets(self):
        sizes = set()
        for policy, state in itertools.chain(cases(51, 60, "abc", people=(1, 4), rights=(1, 8), rules=(1, 4)),
                                             cases(52, 14, "ab", people=(4, 5), rights=(3, 9), rules=(1, 3))):
            for right in all_rights(state, "ab"):
                sets = enough(policy, state, right)
                least = [one for one in sets if not any(set(other) < set(one) for other in sets)]
                self.assertEqual(least_help(policy, state, right), least)
                sizes |= {(len(least), len(one)) for one in least}
                needed = [name for name in state.people if all(name in one for one in sets)]
                self.assertEqual(needed_help(policy, state, right), needed)
                owners = [one for one, word, other in state if (word, other) == right[1:]]
                others = tuple(name for name in state.people if name not in owners)
                self.assertEqual(is_theft(policy, state, right), others in sets)
                for group in ((), tuple(state.people[1:]), tuple(state.people[::-1])):
                    self.assertEqual(comes_by(policy, state, right, group), tuple(sorted(group)) in sets)
            for name in state.people:
                come = between(state, plain_rounds(policy, state, [name]))
                self.assertEqual(alone(policy, state, name), [right for right in come if right not in state])
        self.assertTrue({(1, 0), (1, 1), (1, 2), (2, 1), (2, 2), (3, 1), (2, 3)} <= sizes, sizes)

    def test_thefts(self):
        self.assertFalse(is_theft(BOTH, STATE, GOAL))
        state = State(["ann", "bob"], ["box"], [("ann", "use", "box"), ("bob", "take", "ann")])
        self.assertTrue(is_theft(FETCH, state, ("bob", "use", "box")))
        self.assertTrue(is_theft(FETCH, state, ("ann", "use", "box")))
        both = state + [("bob", "use", "box"), ("ann", "take", "bob")]
        self.assertFalse(is_theft(FETCH, both, ("box", "use", "box")))
        self.assertTrue(is_theft(Policy([]), both, ("bob", "take", "ann")))

    def test_alone(self):
        self.assertEqual(alone(BOTH, STATE, "ann"), [("bob", "give", "bob"), ("bob", "use", "box")])
        self.assertEqual(alone(BOTH, STATE, "bob"), [("cat", "give", "cat")])
        self.assertEqual(alone(FETCH, STATE, "ann"), [])
        alone(BOTH, STATE, "ann").clear()
        least_help(BOTH, STATE, GOAL).clear()
        needed_help(BOTH, STATE, GOAL).clear()
        self.assertEqual([len(alone(BOTH, STATE, "ann")), len(least_help(BOTH, STATE, GOAL))], [2, 2])

    def test_bad_parties(self):
        for names in (None, "ann", {"ann": 1}, 5):
            self.assertIsNone(refused(self, BadParty, comes_by, BOTH, STATE, GOAL, names).name)
        for name in ("box", "dan", None, 1, True, ["ann"], ("ann",)):
            self.assertEqual(refused(self, BadParty, comes_by, BOTH, STATE, GOAL, ["ann", name, "zoe"]).name, name)
            self.assertEqual(refused(self, BadParty, alone, BOTH, STATE, name).name, name)

    def test_errors_in_order(self):
        large = State(list(LETTERS), [])
        for call, rest in ((comes_by, ["bad"]), (least_help, []), (needed_help, []), (is_theft, [])):
            self.assertIsNone(refused(self, BadPolicy, call, None, None, "bad", *rest).number)
            self.assertIsNone(refused(self, BadState, call, BOTH, None, "bad", *rest).part)
            refused(self, TooLarge, call, BOTH, large, "bad", *rest)
            for right in ("bad", list(GOAL), ("cat", "use", "tin"), ("tin", "use", "box"), ("cat", 1, "box")):
                refused(self, BadRight, call, BOTH, STATE, right, *rest)
        self.assertIsNone(refused(self, BadPolicy, alone, None, None, "bad").number)
        self.assertIsNone(refused(self, BadState, alone, BOTH, None, "bad").part)
        refused(self, TooLarge, alone, BOTH, large, "bad")

    def test_eight_people_and_nine(self):
        ring = [(one, "take", other) for one, other in zip(LETTERS[:11], LETTERS[1:12])]
        eight, nine = (State(list(LETTERS[:many]), list(LETTERS[many:12]), ring) for many in (8, 9))
        right = ("a", "take", "c")
        self.assertEqual(least_help(FETCH, eight, right), [("a",)])
        refused(self, TooLarge, least_help, FETCH, nine, right)
        refused(self, TooLarge, least_help, FETCH, nine, ("a", "take", "b"))
        refused(self, BadRight, least_help, FETCH, nine, ("a", "take", "z"))
        self.assertEqual([needed_help(FETCH, nine, right), is_theft(FETCH, nine, right)], [["a"], True])

    def test_all_eight_are_needed(self):
        names = list(LETTERS[:8])
        chain = [(one, "give", other) for one, other in zip(names, names[1:] + ["box"])] + [("a", "give", "a")]
        policy = Policy([("hand", "give", [("use", "use")])])
        state = State(names, ["box"], chain + [("a", "use", "a")])
        self.assertEqual(least_help(policy, state, ("box", "use", "a")), [tuple(names)])

    def test_many_rights_at_the_bounds_are_quick(self):
        rnd = random.Random(55)
        words = [one + other for one in "abcde" for other in "abcdefgh"]
        names = ["p" + letter for letter in LETTERS[:12]]
        start = time.perf_counter()
        for number in range(4):
            policy = Policy([(kind, rnd.choice(words[:4]), sorted(set((rnd.choice(words), rnd.choice(words)) for _ in range(9))))
                             for kind in ("fetch", "hand") * 5] + [("make", words[:9])])
            state = State(names[:8], names[8:], [(rnd.choice(names), rnd.choice(words), rnd.choice(names)) for _ in range(100 * number + 20)])
            for right in rnd.sample(all_rights(state, words), 5):
                least_help(policy, state, right)
                needed_help(policy, state, right)
        self.assertLess(time.perf_counter() - start, 20)


if __name__ == "__main__":
    unittest.main()
