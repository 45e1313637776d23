import itertools
import random
import time
import unittest

from handedkeys.adding import Ground
from handedkeys.cutting import idle_rights, least_cuts, only_hopes, what_is_lost
from handedkeys.errors import BadNumber, BadPolicy, BadRight, BadState, TooLarge
from handedkeys.policies import Policy
from handedkeys.rules import asked_for
from handedkeys.states import State
from tests.tools import ALL, FETCH, all_rights, between, busy_cases, cases, plain_deeds, plain_rounds, refused

LETTERS = "abcdefghijklm"
ASK = Policy([("fetch", "ask", [("use", "use")])])
GOAL = ("ann", "use", "box")


def routes(many):
    """A state in which ann can get a use of the box from so many parties, two rights for each."""
    others = ["x" + letter for letter in LETTERS[:many]]
    return State(["ann"], ["box"] + others, [("ann", "ask", one) for one in others] + [(one, "use", "box") for one in others])


def chain(many):
    """A state in which all of so many rights are needed, one behind the other."""
    names = list(LETTERS[:many])
    return State(names[:1], names[1:] + ["box"], [(one, "see", other) for one, other in zip(names, names[1:] + ["box"])])


def plain_cuts(policy, state, right, most):
    """The least sets of rights, by going through all sets."""
    found = []
    for many in range(most + 1):
        for group in itertools.combinations(state.rights, many):
            if not any(set(less) <= set(group) for less in found):
                if right not in plain_rounds(policy, state - group):
                    found.append(group)
    return found


def plain_ways(policy, state, right):
    """All rights on which some way goes, by going through all deeds till nothing new is asked for."""
    come = plain_rounds(policy, state)
    names = state.parties() + [p + "+" for p in state.people if policy.made() is not None]
    deeds = plain_deeds(policy, state.people, names, come)
    found = {right}
    while True:
        more = {asked for deed, brought in deeds if brought in found for asked in asked_for(policy.rules, deed)} - found
        if not more:
            return found
        found |= more


class CutsTest(unittest.TestCase):

    def test_cuts_of_no_one_two_and_three_rights(self):
        for many in (1, 2, 3):
            found = least_cuts(ASK, routes(many), GOAL, 3)
            pairs = [[("ann", "ask", "x" + letter), ("x" + letter, "use", "box")] for letter in LETTERS[:many]]
            self.assertEqual(found, sorted(tuple(sorted(one)) for one in itertools.product(*pairs)))
            self.assertEqual(least_cuts(ASK, routes(many), GOAL), found if many < 3 else [])
            self.assertEqual(least_cuts(ASK, routes(many), GOAL, 1), found if many < 2 else [])
            self.assertEqual(least_cuts(ASK, routes(many), GOAL, 0), [])
        mixed = routes(2) + [("xa", "ask", "xb")]
        self.assertEqual(least_cuts(FETCH + ASK, mixed, GOAL, most=2), least_cuts(ASK, routes(2), GOAL))

    def test_smaller_ones_first(self):
        policy = Policy([("meet", "a", "b", "d"), ("meet", "a", "c", "d")])
        state = State(["ann"], ["box"], [("ann", word, "box") for word in "abc"])
        self.assertEqual(least_cuts(policy, state, ("ann", "d", "box")),
                         [(("ann", "a", "box"),), (("ann", "b", "box"), ("ann", "c", "box"))])

    def test_rights_that_never_come_up(self):
        for most in (0, 1, 2, 3):
            for right in (("box", "use", "ann"), ("ann", "other", "box"), ("box", "use", "box")):
                self.assertEqual(least_cuts(ASK, routes(2), right, most), [()])
        self.assertEqual(least_cuts(Policy([]), State([], ["box"]), ("box", "use", "box"), 3), [()])

    def test_rights_that_are_there(self):
        held = routes(1) + [("box", "own", "ann"), GOAL]
        self.assertEqual(least_cuts(ASK, held, ("box", "own", "ann")), [(("box", "own", "ann"),)])
        self.assertEqual(least_cuts(ASK, held, ("ann", "ask", "xa")), [(("ann", "ask", "xa"),)])
        self.assertEqual(least_cuts(ASK, held, GOAL), [(("ann", "ask", "xa"), GOAL), (GOAL, ("xa", "use", "box"))])
        self.assertEqual(least_cuts(ASK, held, GOAL, 1), [])

    def test_against_going_through_all_sets(self):
        sizes = set()
        for policy, state in itertools.chain(cases(111, 60, rights=(1, 7), rules=(1, 4)), busy_cases(112, 14)):
            for right in all_rights(state, "ab")[:12]:
                for most in (0, 1, 3):
                    found = least_cuts(policy, state, right, most)
                    self.assertEqual(found, plain_cuts(policy, state, right, most), (policy.rules, state.rights, right))
                sizes |= {len(one) for one in found}
        self.assertEqual(sizes, {0, 1, 2, 3})

    def test_fourteen_rights_on_ways_and_fifteen(self):
        more = [("box", "own", "ann"), ("box", "use", "ann"), ("xa", "ask", "xb"), ("ann", "use", "xc"), ("xa", "own", "xa")]
        fourteen = routes(7) + more
        self.assertEqual(least_cuts(ASK, fourteen, GOAL, 3), [])
        self.assertEqual(least_cuts(ASK, fourteen, GOAL, 0), [])
        self.assertEqual(least_cuts(ASK, fourteen, ("box", "use", "ann"), 2), [(("box", "use", "ann"),)])
        refused(self, TooLarge, least_cuts, ASK, fourteen + [GOAL], GOAL)
        # ann can fetch the use from herself, once she has it
        refused(self, TooLarge, least_cuts, ASK, fourteen + [("ann", "ask", "ann")], GOAL)
        for most in (0, 1, 2, 3):
            refused(self, TooLarge, least_cuts, ASK, routes(8), GOAL, most)
        self.assertEqual(least_cuts(ASK, routes(8), ("xa", "use", "ann"), 3), [()])

    def test_ways_to_rights_that_are_there_count_too(self):
        policy = Policy([("fetch", "ask", [("use", "use")]), ("raise", "own", "use")])
        state = State(["ann", "xa"], routes(7).things[:1] + ["x" + letter for letter in LETTERS[1:7]], routes(7).rights)
        self.assertEqual(least_cuts(policy, state, GOAL), [])
        self.assertEqual(least_cuts(policy, state + [("xa", "own", "ann")], GOAL), [])
        refused(self, TooLarge, least_cuts, policy, state + [("xa", "own", "box")], GOAL)
        refused(self, TooLarge, least_cuts, policy, state + [("xa", "ask", "xb")], GOAL)

    def test_ways_over_helpers_count_too(self):
        names = list(LETTERS[:8])
        policy = Policy([("make", ["give", "take"]), ("hand", "give", [("use", "use")]),
                         ("fetch", "take", [("take", "take"), ("use", "use")])])
        state = State(names, ["box"], [("a", "use", "box")] + [(other, "take", one) for one, other in zip(names, names[1:])])
        found = least_cuts(policy, state, ("h", "use", "box"))
        self.assertEqual(found, [(right,) for right in state.rights])
        for many, holds in ((6, True), (7, False)):
            grown = state + [("h", "take", one) for one in names[:-2]] + [("g", "take", "a")][:many - 6]
            if holds:
                self.assertEqual(least_cuts(policy, grown, ("h", "use", "box"), 1), [(("a", "use", "box"),)])
            else:
                refused(self, TooLarge, least_cuts, policy, grown, ("h", "use", "box"), 1)

    def test_what_is_refused_against_going_through_all_deeds(self):
        counts = {}
        for policy, state in cases(113, 40, "abc", people=(2, 4), rights=(14, 24), rules=(2, 4)):
            for right in random.Random(5).sample(all_rights(state, "abc"), 4):
                many = len(plain_ways(policy, state, right) & set(state.rights))
                counts[many] = counts.get(many, 0) + 1
                if many > 14:
                    refused(self, TooLarge, least_cuts, policy, state, right, 0)
                else:
                    self.assertIn(least_cuts(policy, state, right, 0), ([], [()]))
        self.assertTrue(counts[14] and counts[15] and counts[1], counts)

    def test_rights_on_ways_against_going_through_all_deeds(self):
        sizes = set()
        for policy, state in itertools.chain(cases(121, 150, "abc", rights=(1, 12), rules=(1, 5)), busy_cases(122, 40)):
            for right in random.Random(6).sample(all_rights(state, "abcd"), 4):
                ground = Ground(policy.rules, state, [right])
                found = ground.on_ways(ground.rows, state.rights, [right])
                self.assertEqual(found, sorted(plain_ways(policy, state, right) & set(state.rights)), (policy.rules, state.rights, right))
                sizes.add(len(found))
        self.assertTrue(set(range(8)) <= sizes, sizes)

    def test_errors_in_order(self):
        large = State(list(LETTERS), [])
        self.assertIsNone(refused(self, BadPolicy, least_cuts, None, None, "bad", "bad").number)
        self.assertIsNone(refused(self, BadState, least_cuts, ASK, None, "bad", "bad").part)
        refused(self, TooLarge, least_cuts, ASK, large, "bad", "bad")
        for right in ("bad", list(GOAL), ("ann", "use", "tin"), ("ann", "Use", "box"), None):
            refused(self, BadRight, least_cuts, ASK, routes(8), right, "bad")
        for most in (4, -1, True, False, None, "2", 2.0):
            refused(self, BadNumber, least_cuts, ASK, routes(8), GOAL, most)
        refused(self, TooLarge, least_cuts, ASK, routes(8), GOAL, 2)


class HopesTest(unittest.TestCase):

    def test_only_hopes(self):
        self.assertEqual(only_hopes(ASK, routes(1), GOAL), routes(1).rights)
        self.assertEqual(only_hopes(ASK, routes(2), GOAL), [])
        self.assertEqual(only_hopes(ASK, routes(2), ("box", "use", "ann")), routes(2).rights)
        self.assertEqual(only_hopes(ASK, routes(2), ("xa", "use", "box")), [("xa", "use", "box")])
        self.assertEqual(only_hopes(ASK, routes(1) + [GOAL], GOAL), [])
        see = Policy([("fetch", "see", [("see", "see")])])
        self.assertEqual(only_hopes(see, chain(11), ("a", "see", "box")), chain(11).rights)
        only_hopes(ASK, routes(2), ("box", "use", "ann")).clear()
        self.assertEqual(len(routes(2)), 4)

    def test_against_trying_each(self):
        many = set()
        for policy, state in itertools.chain(cases(114, 60, rights=(1, 9), rules=(1, 4)), busy_cases(115, 20)):
            for right in all_rights(state, "ab"):
                plain = [one for one in state if right not in plain_rounds(policy, state - [one])]
                self.assertEqual(only_hopes(policy, state, right), plain)
                many.add(len(plain))
        self.assertTrue({0, 1, 2, 3, 4} <= many)

    def test_idle_rights(self):
        self.assertEqual(idle_rights(ASK, routes(2)), [])
        self.assertEqual(idle_rights(ASK, routes(2) + [GOAL]), [GOAL])
        policy = Policy([("raise", "own", "use"), ("raise", "use", "own"), ("make", ["own"])])
        state = State(["ann"], ["box", "cup"], [("ann", "own", "box"), ("ann", "use", "box"), ("ann", "own", "cup"), ("box", "own", "cup")])
        self.assertEqual(idle_rights(policy, state), [("ann", "own", "box"), ("ann", "use", "box")])
        self.assertEqual(idle_rights(policy, State(["ann"], [])), [])
        self.assertEqual(idle_rights(Policy([]), state), [])

    def test_idle_against_trying_each(self):
        many = set()
        for policy, state in itertools.chain(cases(116, 150, rights=(0, 9), rules=(1, 4)), busy_cases(117, 60)):
            plain = [one for one in state if one in plain_rounds(policy, state - [one])]
            self.assertEqual(idle_rights(policy, state), plain)
            many.add(len(plain))
        self.assertTrue({0, 1, 2, 3, 4} <= many)

    def test_what_is_lost(self):
        state = routes(1)
        self.assertEqual(what_is_lost(ASK, state, []), [])
        for gone in ([("xa", "use", "box")], (("xa", "use", "box"),), [("xa", "use", "box")] * 3):
            self.assertEqual(what_is_lost(ASK, state, gone), [GOAL, ("xa", "use", "box")])
        self.assertEqual(what_is_lost(ASK, state, state.rights), [("ann", "ask", "xa"), GOAL, ("xa", "use", "box")])
        self.assertEqual(what_is_lost(ASK, routes(2), [("xa", "use", "box")]), [("xa", "use", "box")])
        gone = [("xa", "use", "box")]
        what_is_lost(ASK, state, gone)
        self.assertEqual([gone, len(state)], [[("xa", "use", "box")], 2])

    def test_lost_against_all_that_comes(self):
        rnd = random.Random(118)
        for policy, state in cases(119, 150, rights=(1, 9), rules=(1, 4)):
            gone = rnd.sample(state.rights, rnd.randint(0, len(state)))
            before, behind = plain_rounds(policy, state), plain_rounds(policy, state - gone)
            self.assertEqual(what_is_lost(policy, state, gone + gone), between(state, [one for one in before if one not in behind]))

    def test_errors_in_order(self):
        large = State(list(LETTERS), [])
        for call, rest in ((only_hopes, ["bad"]), (idle_rights, []), (what_is_lost, ["bad"])):
            self.assertIsNone(refused(self, BadPolicy, call, None, None, *rest).number)
            self.assertIsNone(refused(self, BadState, call, ASK, None, *rest).part)
            refused(self, TooLarge, call, ASK, large, *rest)
        for right in ("bad", list(GOAL), ("ann", "use", "tin"), ("ann", "use box", "box"), ("ann", "use")):
            refused(self, BadRight, only_hopes, ASK, routes(1), right)
            refused(self, BadRight, what_is_lost, ASK, routes(1), [("xa", "use", "box"), right])
        for gone in (None, "bad", {("xa", "use", "box"): 1}, [GOAL], [["xa", "use", "box"]], [("ann", "ask", "box")], [1], [[]]):
            refused(self, BadRight, what_is_lost, ASK, routes(1), gone)


class SpeedTest(unittest.TestCase):

    def test_many_rights_at_the_bounds_are_quick(self):
        rnd = random.Random(120)
        names = ["p" + letter for letter in LETTERS[:12]]
        for number in range(6):
            words = [one + other for one in "abcde" for other in "abcdefgh"][:rnd.choice([4, 10, 40])]
            policy = Policy([(kind, rnd.choice(words[:4]), sorted(set((rnd.choice(words), rnd.choice(words)) for _ in range(9))))
                             for kind in ("fetch", "hand") * 5] + [("make", words[:9])])
            for many in (14, 60, 600):
                state = State(names[:8], names[8:], [(rnd.choice(names), rnd.choice(words), rnd.choice(names)) for _ in range(many)])
                start = time.perf_counter()
                idle_rights(policy, state)
                for right in rnd.sample(all_rights(state, words), 2):
                    only_hopes(policy, state, right)
                    try:
                        least_cuts(policy, state, right, 3)
                    except TooLarge:
                        self.assertGreater(many, 14)
                self.assertLess(time.perf_counter() - start, 6)

    def test_many_least_cuts_are_quick(self):
        state = State(["ann"], ["box"], [("ann", "w" + letter, "box") for letter in LETTERS + "n"])
        words = ["w" + letter for letter in LETTERS + "n"]
        rules = [("meet", words[0], words[1], "ab"), ("meet", words[2], words[3], "cd"), ("meet", "ab", "cd", "ae"), ("meet", "ae", words[4], "goal"),
                 ("meet", words[5], words[6], "fg"), ("meet", words[7], words[8], "hi"), ("meet", "fg", "hi", "fj"), ("meet", "fj", words[9], "goal"),
                 ("meet", words[10], words[11], "kl"), ("meet", words[12], words[13], "mn"), ("meet", "kl", "mn", "goal")]
        start = time.perf_counter()
        found = least_cuts(Policy(rules), state, ("ann", "goal", "box"), 3)
        self.assertLess(time.perf_counter() - start, 5)
        self.assertEqual([len(found), {len(one) for one in found}], [100, {3}])


if __name__ == "__main__":
    unittest.main()
