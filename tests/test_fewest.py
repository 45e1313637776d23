import random
import time
import unittest

from handedkeys.closing import judge_can
from handedkeys.deeds import done
from handedkeys.errors import BadDeed, BadPolicy, BadRight, BadState, NeverComes, TooLarge
from handedkeys.fewest import Fewest, fewest_deeds, is_enough
from handedkeys.policies import Policy
from handedkeys.states import State
from tests.tools import FETCH, all_rights, cases, plain_rounds, reached, refused

STATE = State(["ann", "bob"], ["box", "cup"], [("ann", "take", "bob"), ("bob", "take", "cup"), ("cup", "use", "box")])
GOAL = ("ann", "use", "box")
SHORT = [(0, "ann", "bob", "cup", ("take", "take")), (0, "ann", "cup", "box", ("use", "use"))]
LONG = [(0, "bob", "cup", "box", ("use", "use")), (0, "ann", "bob", "cup", ("take", "take")), (0, "ann", "bob", "box", ("use", "use"))]
LETTERS = "abcdefghijklm"


def how_new(policy, state):
    """How many are new of those that [7] counts."""
    since = plain_rounds(policy, state)
    made = policy.made() or ()
    new = [one for one in since if one not in state and not (one[2] == one[0] + "+" and one[1] in made)]
    return len(new) + (len(state.people) if policy.made() is not None else 0)


def lift(many):
    """A policy and a state with just so many new rights, at most 24."""
    parties = ["ann"] + list(LETTERS[:11])
    rights = [("ann", "own", party) for party in parties] + [("ann", "lend", party) for party in parties]
    return Policy([("raise", "own", "use"), ("raise", "lend", "see")]), State(["ann"], parties[1:], rights[:many])


class FewestTest(unittest.TestCase):

    def test_few_and_none(self):
        found = fewest_deeds(FETCH, STATE, GOAL)
        self.assertEqual(len(found), 2)
        self.assertIs(type(found.deeds), list)
        self.assertIn(GOAL, done(FETCH, STATE, found.deeds))
        self.assertTrue(found.shows(FETCH, STATE, GOAL))
        none = fewest_deeds(FETCH, STATE, ("cup", "use", "box"))
        self.assertEqual([none.deeds, len(none), bool(none)], [[], 0, True])
        self.assertTrue(none.shows(FETCH, STATE, ("cup", "use", "box")))

    def test_no_fewer_deeds_do_it(self):
        checked = set()
        for policy, state in cases(21, 400, "abc", people=(1, 2), things=(0, 2), rights=(1, 5), rules=(1, 4)):
            since = plain_rounds(policy, state)
            for right in all_rights(state, "abc"):
                if right not in since:
                    refused(self, NeverComes, fewest_deeds, policy, state, right)
                elif how_new(policy, state) > 12:
                    refused(self, TooLarge, fewest_deeds, policy, state, right)
                else:
                    found = fewest_deeds(policy, state, right)
                    self.assertIn(right, done(policy, state, found.deeds))
                    self.assertTrue(found.shows(policy, state, right))
                    self.assertTrue(is_enough(policy, state, right, found.deeds))
                    checked.add((len(found), policy.made() is not None))
                    shorter = reached(policy, state, min(len(found), 5) - 1) if found.deeds else []
                    self.assertFalse(any(right in held for held, _ in shorter), (policy.rules, state.rights, right))
        self.assertTrue({(0, False), (1, False), (2, False), (3, False), (0, True), (1, True), (2, True), (3, True)} <= checked)

    def test_a_made_thing_on_the_way(self):
        policy = Policy([("hand", "give", [("see", "see")]), ("fetch", "give", [("see", "use")]), ("make", ["give"])])
        state = State(["ann"], ["box"], [("ann", "see", "box")])
        found = fewest_deeds(policy, state, ("ann", "use", "box"))
        self.assertEqual([policy[deed[0]][0] for deed in found.deeds], ["make", "hand", "fetch"])
        self.assertTrue(found.shows(policy, state, ("ann", "use", "box")))
        names = [deed[2] for deed in found.deeds]
        self.assertEqual(len(set(names)), 1)
        other = [(number, one, "tin") + tuple(rest) for number, one, _, *rest in found.deeds]
        self.assertTrue(Fewest(other).shows(policy, state, ("ann", "use", "box")))

    def test_just_twelve_new_and_thirteen(self):
        policy, state = lift(12)
        self.assertEqual(how_new(policy, state), 12)
        self.assertEqual(len(fewest_deeds(policy, state, ("ann", "use", "c"))), 1)
        more = lift(13)[1]
        self.assertEqual(how_new(policy, more), 13)
        for right in (("ann", "use", "c"), ("ann", "see", "ann"), ("ann", "own", "c")):
            refused(self, TooLarge, fewest_deeds, policy, more, right)
        refused(self, NeverComes, fewest_deeds, policy, more, ("c", "use", "c"))
        self.assertEqual(len(fewest_deeds(policy, more + [("ann", "use", "ann")], ("ann", "use", "c"))), 1)
        self.assertEqual(fewest_deeds(policy, more - [("ann", "own", "b")], ("ann", "own", "c")).deeds, [])

    def test_people_count_with_a_make(self):
        make = Policy([("make", ["own"]), ("raise", "lend", "use")])
        people = ["p" + letter for letter in LETTERS[:11]]
        state = State(people, ["box"], [("pa", "lend", "box")])
        self.assertEqual(how_new(make, state), 12)
        self.assertEqual(fewest_deeds(make, state, ("pa", "use", "box")).deeds, [(1, "pa", "box")])
        refused(self, TooLarge, fewest_deeds, make, state + [("pb", "lend", "box")], ("pa", "use", "box"))
        self.assertEqual(len(fewest_deeds(make.without(0), state + [("pb", "lend", "box")], ("pa", "use", "box"))), 1)
        lifts = Policy([("make", ["own"]), ("raise", "own", "use")])
        six = State(people[:6], ["box"], [("pa", "own", "box")])
        self.assertEqual(how_new(lifts, six), 13)
        refused(self, TooLarge, fewest_deeds, lifts, six, ("pa", "use", "box"))
        self.assertEqual(len(fewest_deeds(lifts, six - [("pa", "own", "box")] + [("pa", "use", "box")], ("pa", "use", "box"))), 0)

    def test_changed_evidence(self):
        found = fewest_deeds(FETCH, STATE, GOAL)
        for deeds, holds in ((SHORT, True), (tuple(SHORT), True), ([list(deed) for deed in SHORT], True), (LONG, False),
                             (SHORT[:1], False), (SHORT[1:], False), ([], False), (SHORT[::-1], False),
                             (SHORT + SHORT[:1], False), (SHORT + [("drop", "ann", "take", "bob")], False),
                             ([(0, "ann", "bob", "cup", ["take", "take"]), SHORT[1]], True)):
            found.deeds = deeds
            self.assertEqual(found.shows(FETCH, STATE, GOAL), holds, deeds)
            self.assertEqual(len(found), len(deeds))
            self.assertIs(bool(found), True)
        self.assertTrue(Fewest(SHORT) == Fewest([list(deed) for deed in SHORT]))
        self.assertFalse(Fewest(SHORT) == Fewest(LONG))
        self.assertFalse(Fewest(SHORT) == judge_can(FETCH, STATE, GOAL))
        self.assertFalse(Fewest([]) == [])
        found.deeds = tuple([list(deed) for deed in SHORT])
        self.assertTrue(found == Fewest(SHORT) and Fewest(SHORT) == found)

    def test_shows_raises_only_for_deeds_that_lead_there(self):
        policy, more = lift(13)
        right = ("ann", "use", "c")
        self.assertFalse(Fewest([]).shows(policy, more, right))
        self.assertFalse(Fewest([(0, "ann", "zzz")]).shows(policy, more, right))
        refused(self, TooLarge, Fewest([(0, "ann", "c")]).shows, policy, more, right)
        self.assertFalse(Fewest([]).shows(policy, more, ("c", "use", "c")))

    def test_what_is_given_is_copied(self):
        deeds = [list(deed) for deed in SHORT]
        found = Fewest(deeds)
        deeds[0].clear()
        deeds.pop()
        self.assertTrue(found == Fewest(SHORT))

    def test_errors_in_order(self):
        large = State(list(LETTERS), [])
        for call, rest in ((fewest_deeds, []), (Fewest([]).shows, []), (is_enough, ["bad"])):
            self.assertIsNone(refused(self, BadPolicy, call, None, None, "bad", *rest).number)
            self.assertIsNone(refused(self, BadState, call, FETCH, None, "bad", *rest).part)
            refused(self, TooLarge, call, FETCH, large, "bad", *rest)
            for right in ("bad", list(GOAL), ("ann", "use", "tin"), ("tin", "use", "ann"), ("ann", "use", "ann+")):
                refused(self, BadRight, call, FETCH, STATE, right, *rest)
        refused(self, NeverComes, fewest_deeds, FETCH, STATE, ("box", "use", "box"))

    def test_twelve_new_ones_are_quick(self):
        rnd = random.Random(3)
        names = ["p" + letter for letter in LETTERS[:12]]
        rules = [("fetch", "take", [("use", "use"), ("take", "take")])] * 11 + [("hand", "take", [("use", "use")])]
        start = time.perf_counter()
        full = [(one, word, other) for one in names for word in ("take", "use") for other in names]
        state = State(names, [], full) - rnd.sample(full, 12)
        for right in full[::17]:
            self.assertLess(len(fewest_deeds(Policy(rules), state, right)), 2)
        near = State(["ann"], list(LETTERS[:11]), [("ann", "take", "a")] + [(one, "take", other) for one, other in
                                                                        zip(LETTERS[:10], LETTERS[1:11])])
        self.assertEqual(len(fewest_deeds(Policy(rules), near, ("ann", "take", "k"))), 10)
        self.assertLess(time.perf_counter() - start, 10)


class EnoughTest(unittest.TestCase):

    def test_needless_deeds(self):
        self.assertTrue(is_enough(FETCH, STATE, GOAL, SHORT))
        self.assertTrue(is_enough(FETCH, STATE, GOAL, tuple(SHORT)))
        self.assertFalse(is_enough(FETCH, STATE, GOAL, LONG))
        policy, state = Policy([("raise", "a", "b"), ("raise", "b", "c"), ("raise", "a", "c")]), State(["x"], [], [("x", "a", "x")])
        two = [(0, "x", "x"), (1, "x", "x")]
        self.assertTrue(is_enough(policy, state, ("x", "c", "x"), two))
        self.assertFalse(Fewest(two).shows(policy, state, ("x", "c", "x")))
        self.assertFalse(is_enough(policy, state, ("x", "c", "x"), two + [(2, "x", "x")]))
        self.assertFalse(is_enough(FETCH, STATE, GOAL, SHORT + SHORT[:1]))
        self.assertFalse(is_enough(FETCH, STATE, GOAL, LONG[:1] + SHORT))
        self.assertFalse(is_enough(FETCH, STATE, GOAL, SHORT[:1]))
        self.assertTrue(is_enough(FETCH, STATE, ("ann", "take", "bob"), []))
        self.assertFalse(is_enough(FETCH, STATE, ("ann", "take", "bob"), SHORT[:1]))

    def test_drops(self):
        self.assertFalse(is_enough(FETCH, STATE, GOAL, SHORT + [("drop", "ann", "take", "bob")]))
        self.assertFalse(is_enough(FETCH, STATE, GOAL, SHORT + [("drop", "ann", "use", "box")]))
        self.assertFalse(is_enough(FETCH, STATE, GOAL, SHORT + [("drop", "ann", "use", "box"), SHORT[1]]))

    def test_deeds_that_cannot_be_done(self):
        self.assertEqual(refused(self, BadDeed, is_enough, FETCH, STATE, GOAL, SHORT[::-1]).place, 0)
        self.assertEqual(refused(self, BadDeed, is_enough, FETCH, STATE, GOAL, [SHORT[0], list(SHORT[1])]).place, 1)
        for deeds in (None, "deeds", {}):
            self.assertIsNone(refused(self, BadDeed, is_enough, FETCH, STATE, GOAL, deeds).place)


if __name__ == "__main__":
    unittest.main()
