import itertools
import random
import time
import unittest

from handedkeys.errors import BadPolicy, BadState, TooLarge
from handedkeys.leanstates import common_rights, compared_states, lean_state, least_states, united
from handedkeys.policies import Policy
from handedkeys.states import State
from tests.tools import between, busy_cases, cases, plain_rounds, random_state, refused

LETTERS = "abcdefghijklm"
POLICY = Policy([("raise", "own", "use"), ("raise", "own", "lend"), ("meet", "lend", "use", "own"), ("meet", "key", "use", "free")])
OWN, USE, LEND, KEY = (("ann", word, "box") for word in ("own", "use", "lend", "key"))


def box(*rights):
    """A state with just some rights."""
    return State(["ann"], ["box"], list(rights))


def come(policy, state):
    """The ascending list of all rights between the parties that can come up."""
    return between(state, plain_rounds(policy, state))


def plain_lean(policy, state):
    """The state without what comes up again, tried right by right from the last one on."""
    left = state
    for right in reversed(state.rights):
        if right in come(policy, left - [right]):
            left = left - [right]
    return left


def plain_least(policy, state):
    """The least sets of rights from which all come up, by going through all sets."""
    sets = [group for many in range(len(state) + 1) for group in itertools.combinations(state.rights, many)]
    enough = [group for group in sets if set(state.rights) <= set(come(policy, State(state.people, state.things, group)))]
    return [group for group in enough if not any(set(less) < set(group) for less in enough)]


def pairs_of_states(seed, many):
    """Generate policies and pairs of states with the same parties."""
    rnd = random.Random(seed)
    for policy, state in itertools.chain(cases(seed, many), busy_cases(seed + 1, many // 3)):
        other = State(state.people, state.things, [(rnd.choice(state.parties()), rnd.choice("abc"), rnd.choice(state.parties()))
                                                   for _ in range(rnd.randint(0, 4))])
        yield policy, state, rnd.choice([other, state + other.rights, state - rnd.sample(state.rights, len(state) // 2)])


class ComparedStatesTest(unittest.TestCase):

    def test_each_answer(self):
        for one, other, told in ((box(OWN), box(OWN), "same"), (box(OWN), box(USE), "more"), (box(USE), box(OWN), "less"),
                                 (box(USE), box(LEND), "unlike"), (box(), box(), "same"), (box(KEY), box(), "more"),
                                 (box(KEY, USE), box(KEY, OWN), "less"), (box(KEY, OWN), box(LEND), "more"),
                                 (box(KEY), box(OWN), "unlike")):
            self.assertEqual(compared_states(POLICY, one, other), told)

    def test_rights_that_come_up_anyhow_do_not_matter(self):
        for one, other in ((box(OWN), box(OWN, USE, LEND)), (box(LEND, USE), box(OWN)), (box(OWN, KEY), box(LEND, USE, KEY, ("ann", "free", "box")))):
            self.assertEqual([compared_states(POLICY, one, other), compared_states(POLICY, other, one)], ["same", "same"])
        self.assertEqual(compared_states(POLICY, box(OWN, ("box", "other", "ann")), box(OWN, USE)), "more")

    def test_over_made_things(self):
        policy = Policy([("make", ["put"]), ("hand", "put", [("own", "own")]), ("fetch", "put", [("own", "lent")])])
        self.assertEqual(compared_states(policy, box(OWN), box(OWN, ("ann", "lent", "box"))), "same")
        self.assertEqual(compared_states(policy, box(OWN), box(("ann", "lent", "box"))), "more")

    def test_against_all_that_comes(self):
        told = set()
        for policy, one, other in pairs_of_states(221, 240):
            first, second = set(come(policy, one)), set(come(policy, other))
            plain = "same" if first == second else "more" if second < first else "less" if first < second else "unlike"
            self.assertEqual(compared_states(policy, one, other), plain)
            told.add(plain)
        self.assertEqual(told, {"same", "more", "less", "unlike"})


class LeanStateTest(unittest.TestCase):

    def test_from_the_last_right_on(self):
        self.assertEqual(list(lean_state(POLICY, box(OWN, USE, LEND))), [OWN])
        back = Policy([("raise", "a", "b"), ("raise", "b", "a"), ("raise", "b", "c"), ("raise", "c", "b")])
        state = box(*[("ann", word, "box") for word in "abc"])
        self.assertEqual(list(lean_state(back, state)), [("ann", "a", "box")])
        chain = Policy([("meet", "a", "b", "c"), ("meet", "b", "c", "a"), ("meet", "a", "c", "b")])
        self.assertEqual(list(lean_state(chain, state)), [("ann", "a", "box"), ("ann", "b", "box")])
        self.assertEqual(list(lean_state(Policy([]), state)), state.rights)
        self.assertEqual(list(lean_state(POLICY, box())), [])

    def test_it_is_new_and_has_the_same_parties(self):
        state = State(["ann", "bob"], ["box", "cup"], [OWN, USE])
        lean = lean_state(POLICY, state)
        self.assertEqual([lean.people, lean.things, list(lean)], [["ann", "bob"], ["box", "cup"], [OWN]])
        lean.rights.clear()
        lean.people.clear()
        self.assertEqual([len(state), len(lean_state(POLICY, state))], [2, 1])
        full = box(OWN, KEY)
        lean_state(POLICY, full).rights.clear()
        self.assertEqual(len(full), 2)

    def test_against_trying_right_by_right(self):
        taken = set()
        for policy, state in itertools.chain(cases(222, 200, rights=(0, 9)), busy_cases(223, 90)):
            lean = lean_state(policy, state)
            self.assertTrue(lean == plain_lean(policy, state), (policy.rules, state.rights))
            taken.add(len(state) - len(lean))
        self.assertTrue({0, 1, 2, 3} <= taken, taken)

    def test_large_states(self):
        rnd = random.Random(224)
        for policy, _ in cases(225, 8, words="abcdef", rules=(3, 6)):
            state = random_state(rnd, list("abcdef"), 4, 3, 60)
            self.assertTrue(lean_state(policy, state) == plain_lean(policy, state))


class LeastStatesTest(unittest.TestCase):

    def test_several(self):
        self.assertEqual(least_states(POLICY, box(OWN, USE, LEND)), [(OWN,), (LEND, USE)])
        self.assertEqual(least_states(POLICY, box(OWN, USE, LEND, KEY)), [(KEY, OWN), (KEY, LEND, USE)])
        self.assertEqual(least_states(POLICY, box(KEY, USE)), [(KEY, USE)])

    def test_the_empty_one_and_words_of_no_rule(self):
        self.assertEqual(least_states(POLICY, box()), [()])
        self.assertEqual(least_states(POLICY, box(("box", "zeal", "ann"), OWN, USE)), [(OWN, ("box", "zeal", "ann"))])
        self.assertEqual(least_states(Policy([]), box(USE, OWN)), [(OWN, USE)])

    def test_against_going_through_all_sets(self):
        many = set()
        for policy, state in itertools.chain(cases(226, 200, rights=(0, 7)), busy_cases(227, 60)):
            if len(state) < 8:
                found = least_states(policy, state)
                self.assertEqual(found, plain_least(policy, state), (policy.rules, state.rights))
                many.add(len(found))
        self.assertTrue({1, 2, 3} <= many, many)

    def test_ten_rights_and_eleven(self):
        ten = box(*[("ann", "w" + letter, "box") for letter in LETTERS[:10]])
        both = Policy([("raise", "w" + one, "w" + other) for one, other in zip("abcdefghij", "bcdefghija")])
        self.assertEqual(least_states(both, ten), [(right,) for right in ten.rights])
        self.assertEqual(least_states(Policy([]), ten), [tuple(ten.rights)])
        refused(self, TooLarge, least_states, both, ten + [OWN])
        self.assertEqual(len(lean_state(both, ten + [OWN])), 2)


class TogetherTest(unittest.TestCase):

    def test_common_rights(self):
        self.assertEqual(common_rights(POLICY, box(OWN), box(USE, KEY)), [USE])
        self.assertEqual(common_rights(POLICY, box(OWN), box(LEND, USE)), [LEND, OWN, USE])
        self.assertEqual(common_rights(POLICY, box(OWN), box()), [])

    def test_united(self):
        free = ("ann", "free", "box")
        self.assertEqual(united(POLICY, box(KEY), box(USE)), [free])
        self.assertEqual(united(POLICY, box(LEND), box(USE, KEY)), [OWN])
        self.assertEqual(united(POLICY, box(LEND, KEY), box(USE, KEY)), [OWN])
        self.assertEqual([united(POLICY, box(OWN), box(USE)), united(POLICY, box(), box())], [[], []])

    def test_against_all_that_comes(self):
        found = set()
        for policy, one, other in pairs_of_states(228, 240):
            first, second, both = (set(come(policy, state)) for state in (one, other, one + other.rights))
            self.assertEqual(common_rights(policy, one, other), sorted(first & second))
            self.assertEqual(united(policy, one, other), sorted(both - first - second))
            found.add(len(both - first - second) > 0)
        self.assertEqual(found, {True, False})


class RefusalsTest(unittest.TestCase):

    def test_errors_in_order(self):
        large, wide = State(list(LETTERS), []), State(["ann"], ["box", "cup"])
        for call in (compared_states, common_rights, united):
            for policy in (None, [], POLICY.rules):
                self.assertIsNone(refused(self, BadPolicy, call, policy, None, None).number)
            for one, other in ((None, large), (large, None), ("bad", "bad"), (box(), [OWN]), (None, box())):
                self.assertIsNone(refused(self, BadState, call, POLICY, one, other).part)
            for one, other in ((large, box()), (box(), large), (large, large)):
                refused(self, TooLarge, call, POLICY, one, other)
            for other in (State(["bob"], ["box"]), State(["ann", "bob"], ["cup"]), State([], ["ann", "box"])):
                self.assertEqual(refused(self, BadState, call, POLICY, box(), other).part, "people")
            for other in (wide, State(["ann"], []), State(["ann"], ["cup"])):
                self.assertEqual(refused(self, BadState, call, POLICY, box(), other).part, "things")
        for call in (lean_state, least_states):
            self.assertIsNone(refused(self, BadPolicy, call, None, None).number)
            self.assertIsNone(refused(self, BadState, call, POLICY, box().rights).part)
            refused(self, TooLarge, call, POLICY, large)

    def test_arguments_stay(self):
        one, other = box(OWN, USE), box(KEY, LEND)
        for call in (compared_states, common_rights, united):
            call(POLICY, one, other)
        lean_state(POLICY, one)
        least_states(POLICY, one).clear()
        self.assertTrue(one == box(OWN, USE) and other == box(KEY, LEND))

    def test_the_bounds_are_quick(self):
        rnd = random.Random(229)
        names = ["p" + letter for letter in LETTERS[:12]]
        start = time.perf_counter()
        for number in range(4):
            words = [one + other for one in "abcd" for other in "abcdef"][:rnd.choice([3, 8, 24])]
            rules = [(kind, rnd.choice(words[:3]), sorted(set((rnd.choice(words), rnd.choice(words)) for _ in range(9)))) for kind in ("fetch", "hand") * 5]
            policy = Policy(rules + [("make", words[:3])])
            states = [State(names[:8], names[8:], [(rnd.choice(names), rnd.choice(words), rnd.choice(names)) for _ in range(many)])
                      for many in (10, 60, 500)]
            for state in states:
                lean_state(policy, state)
                compared_states(policy, state, states[0])
                common_rights(policy, state, states[1])
                united(policy, state, states[0])
            least_states(policy, states[0])
            lean_state(Policy(rules[:2]), states[2])
        self.assertLess(time.perf_counter() - start, 12)

    def test_least_states_of_ten_that_need_one_another_is_quick(self):
        start = time.perf_counter()
        state = State(["ann"], ["box"] + list(LETTERS[:5]), [("ann", word, name) for name in LETTERS[:5] for word in "ab"])
        self.assertEqual(len(least_states(Policy([("raise", "a", "b"), ("raise", "b", "a")]), state)), 32)
        ring = Policy([("meet", "w" + LETTERS[k], "w" + LETTERS[(k + 3) % 10], "w" + LETTERS[(k + 7) % 10]) for k in range(10)])
        ten = box(*[("ann", "w" + letter, "box") for letter in LETTERS[:10]])
        self.assertEqual(least_states(ring, ten), plain_least(ring, ten))
        self.assertLess(time.perf_counter() - start, 10)


if __name__ == "__main__":
    unittest.main()
