import itertools
import random
import time
import unittest

from handedkeys.errors import BadNumber, BadPolicy, BadRight, BadState, TooLarge
from handedkeys.mends import at_odds, least_mends, least_taken, least_unwilling
from handedkeys.policies import Policy
from handedkeys.states import State
from tests.tools import FETCH, all_rights, busy_cases, cases, plain_rounds, refused

LETTERS = "abcdefghijklm"
POLICY = Policy([("raise", "own", "use"), ("raise", "own", "lend"), ("raise", "lend", "use")])
STATE = State(["ann", "bob"], ["box"], [("ann", "own", "box"), ("bob", "own", "box")])
USE, LEND, OWN = (("ann", word, "box") for word in ("use", "lend", "own"))


def groups(ones, most):
    """All sets of some things, at most so many, as tuples, the smaller ones first."""
    return [group for many in range(most + 1) for group in itertools.combinations(ones, many)]


def least(sets):
    """Those of some sets none of whose smaller parts is among them."""
    return [one for one in sets if not any(set(less) < set(one) for less in sets)]


def fits(come, wanted, promises):
    """Whether all wanted rights come up, and no promised one."""
    return all(right in come for right in wanted) and not any(right in come for right in promises)


def plain_mends(policy, state, wanted, promises, most):
    return least([gone for gone in groups(state.rights, len(state)) if fits(plain_rounds(policy, state - gone), wanted, promises)
                  and len(gone) <= most])


def plain_taken(policy, state, wanted, promises):
    return least([taken for taken in groups(range(len(policy)), len(policy))
                  if fits(plain_rounds(policy.without(*taken), state), wanted, promises)])


def plain_unwilling(policy, state, wanted, promises):
    return least([names for names in groups(state.people, len(state.people))
                  if fits(plain_rounds(policy, state, [one for one in state.people if one not in names]), wanted, promises)])


class MendsTest(unittest.TestCase):

    def test_nothing_need_be_taken(self):
        for wanted, promises in (([], []), ([USE], []), ([], [("box", "use", "ann")]), ([USE, OWN, USE], [("ann", "other", "box")])):
            for call in (least_mends, least_taken, least_unwilling):
                self.assertEqual(call(POLICY, STATE, wanted, promises), [()])
            self.assertEqual(least_mends(POLICY, STATE, wanted, promises, 0), [()])

    def test_nothing_helps(self):
        for wanted, promises in (([USE], [USE]), ([("box", "use", "ann")], []), ([LEND], [OWN])):
            for call in (least_mends, least_taken, least_unwilling):
                self.assertEqual(call(POLICY, STATE, wanted, promises), [])
        self.assertEqual(least_unwilling(POLICY, STATE, [], [OWN]), [])
        self.assertEqual(least_taken(POLICY, STATE, [], [OWN]), [])
        self.assertEqual(least_mends(POLICY, STATE, [], [OWN]), [(OWN,)])

    def test_rights_rules_and_people(self):
        self.assertEqual(least_mends(POLICY, STATE, [("bob", "use", "box")], [USE]), [(OWN,)])
        self.assertEqual(least_taken(POLICY, STATE, [], [USE, ("bob", "use", "box")]), [(0, 1), (0, 2)])
        self.assertEqual(least_taken(POLICY, STATE, [LEND], [USE]), [(0, 2)])
        self.assertEqual(least_taken(POLICY, STATE, [LEND, LEND], [USE, USE]), [(0, 2)])
        self.assertEqual(least_taken(POLICY, STATE, [LEND, USE], [("bob", "use", "box")]), [])
        self.assertEqual(least_unwilling(POLICY, STATE, (LEND,), (("bob", "use", "box"),)), [("bob",)])
        self.assertEqual(least_unwilling(POLICY, STATE, [], [USE, ("bob", "use", "box")]), [("ann", "bob")])
        self.assertEqual(least_unwilling(POLICY, STATE, [LEND], [USE]), [])

    def test_most(self):
        wide = State(["ann"], ["box"], [("ann", word, "box") for word in ("lend", "own", "use")])
        for most, told in ((0, []), (1, []), (2, []), (3, [(LEND, OWN, USE)])):
            self.assertEqual(least_mends(POLICY, wide, [], [USE], most), told)
        self.assertEqual(least_mends(POLICY, wide, [], [USE]), [])
        self.assertEqual(least_mends(POLICY, wide - [USE], [], [USE]), [(LEND, OWN)])
        self.assertEqual(least_mends(POLICY, wide - [USE], [], [USE], 1), [])
        self.assertEqual(least_mends(POLICY, wide, [], [USE, USE], most=3), [(LEND, OWN, USE)])

    def test_a_greater_set_does_not_do_for_what_is_wanted(self):
        policy = Policy([("meet", "a", "b", "bad"), ("raise", "a", "good"), ("raise", "b", "good")])
        state = State(["ann"], [], [("ann", "a", "ann"), ("ann", "b", "ann")])
        good, bad = ("ann", "good", "ann"), ("ann", "bad", "ann")
        self.assertEqual(least_mends(policy, state, [good], [bad]), [(("ann", "a", "ann"),), (("ann", "b", "ann"),)])
        self.assertEqual(least_taken(policy, state, [good], [bad]), [(0,)])
        both = Policy([("fetch", "see", [("see", "own")]), ("hand", "see", [("see", "own")])])
        ring = State(["ann", "bob"], [], [("ann", "see", "bob"), ("bob", "see", "ann")])
        self.assertEqual(least_unwilling(both, ring, [("ann", "own", "ann")], [("bob", "own", "bob")]), [])
        self.assertEqual(least_unwilling(both, ring, [("bob", "see", "ann")], [("bob", "own", "bob")]), [("ann", "bob")])

    def test_makes_are_taken_and_left(self):
        policy = Policy([("make", ["put"]), ("hand", "put", [("own", "kept")]), ("fetch", "put", [("kept", "lent")])])
        lent = ("ann", "lent", "box")
        self.assertEqual(least_taken(policy, STATE, [], [lent]), [(0,), (1,), (2,)])
        self.assertEqual(least_unwilling(policy, STATE, [("bob", "lent", "box")], [lent]), [("ann",)])
        self.assertEqual(least_mends(policy, STATE, [("bob", "lent", "box")], [lent]), [(OWN,)])

    def test_against_going_through_all_sets(self):
        rnd = random.Random(211)
        sizes = {call: set() for call in ("mends", "taken", "unwilling")}
        for policy, state in itertools.chain(cases(212, 200, "abc", people=(1, 4), rights=(1, 6), rules=(1, 4)), busy_cases(213, 60)):
            come = sorted(right for right in plain_rounds(policy, state) if right[0][-1] != "+" and right[2][-1] != "+")
            wanted = rnd.sample(come, min(len(come), rnd.randint(0, 2))) * rnd.randint(1, 2)
            promises = rnd.sample(come, min(len(come), rnd.randint(0, 2))) + rnd.sample(all_rights(state, "abd"), rnd.randint(0, 1))
            message = (policy.rules, state.rights, wanted, promises)
            for most in (0, 1, 3):
                found = least_mends(policy, state, wanted, promises, most)
                self.assertEqual(found, plain_mends(policy, state, wanted, promises, most), message)
            sizes["mends"] |= {len(one) for one in found}
            found = least_taken(policy, state, wanted, promises * 2)
            self.assertEqual(found, plain_taken(policy, state, wanted, promises), message)
            sizes["taken"] |= {len(one) for one in found}
            found = least_unwilling(policy, state, tuple(wanted), tuple(promises))
            self.assertEqual(found, plain_unwilling(policy, state, wanted, promises), message)
            sizes["unwilling"] |= {len(one) for one in found}
        self.assertEqual(sizes["mends"], {0, 1, 2, 3})
        self.assertTrue({0, 1, 2} <= sizes["taken"] and {0, 1, 2} <= sizes["unwilling"], sizes)

    def test_fourteen_rights_and_fifteen(self):
        others = ["x" + letter for letter in LETTERS[:9]]
        ask = Policy([("fetch", "ask", [("use", "use")])])
        fourteen = State(["ann"], ["box"] + others, [("ann", "ask", one) for one in others[:7]] + [(one, "use", "box") for one in others[:7]])
        self.assertEqual(least_mends(ask, fourteen, [], [USE], 3), [])
        self.assertEqual(least_mends(ask, fourteen, [], [("xa", "use", "box")], 3), [(("xa", "use", "box"),)])
        for right in (("box", "own", "ann"), ("ann", "ask", "xh")):
            refused(self, TooLarge, least_mends, ask, fourteen + [right], [], [USE], 0)
            refused(self, TooLarge, least_mends, ask, fourteen + [right], [], [])
        self.assertEqual(least_unwilling(ask, fourteen + [("box", "own", "ann")], [], [USE]), [("ann",)])

    def test_eight_rules_and_nine(self):
        eight = Policy([("raise", "own", "use")] * 8)
        self.assertEqual(least_taken(eight, STATE, [], [USE]), [tuple(range(8))])
        nine = Policy([("raise", "own", "use")] * 9)
        refused(self, TooLarge, least_taken, nine, STATE, [], [])
        self.assertEqual(least_mends(nine, STATE, [], [USE]), [(OWN,)])

    def test_eight_people_and_nine(self):
        names = list(LETTERS[:8])
        give = Policy([("hand", "give", [("use", "use")])])
        eight = State(names, ["box", "cup"], [(one, "give", "box") for one in names] + [(one, "use", "cup") for one in names])
        self.assertEqual(least_unwilling(give, eight, [], [("box", "use", "cup")]), [tuple(names)])
        self.assertEqual(least_unwilling(give, eight, [("box", "use", "cup")], []), [()])
        nine = State(names + ["i"], ["box"])
        refused(self, TooLarge, least_unwilling, give, nine, [], [])
        self.assertEqual(least_mends(give, nine, [], []), [()])

    def test_errors_in_order(self):
        large = State(list(LETTERS), [])
        wrong = (None, "bad", OWN, [list(OWN)], [("ann", "own", "tin")], [("ann", "", "ann")], {OWN: 1}, [OWN, 1], [("ann", "own")])
        many = State(list(LETTERS[:9]), [], [("a", "w" + one + other, "a") for one in LETTERS[:4] for other in LETTERS[:4]])
        rules = Policy([("raise", "a", "b")] * 9)
        for call, rest in ((least_mends, ["bad"]), (least_taken, []), (least_unwilling, []), (at_odds, [])):
            self.assertIsNone(refused(self, BadPolicy, call, None, None, "bad", "bad", *rest).number)
            self.assertIsNone(refused(self, BadState, call, rules, None, "bad", "bad", *rest).part)
            refused(self, TooLarge, call, rules, large, "bad", "bad", *rest)
            for one in wrong:
                refused(self, BadRight, call, POLICY, STATE, one, "bad", *rest)
                refused(self, BadRight, call, POLICY, STATE, one, [], *rest)
                refused(self, BadRight, call, POLICY, STATE, [OWN, OWN], one, *rest)
            refused(self, BadRight, call, rules, many, [], "bad", *rest)
        for most in (4, -1, True, False, None, "2", 2.0):
            refused(self, BadNumber, least_mends, rules, many, [], [], most)
        refused(self, TooLarge, least_mends, rules, many, [], [], 2)

    def test_arguments_stay(self):
        wanted, promises = [USE, OWN, USE], [LEND, LEND]
        for call in (least_mends, least_taken, least_unwilling, at_odds):
            call(POLICY, STATE, wanted, promises).clear()
        self.assertEqual([wanted, promises, len(STATE)], [[USE, OWN, USE], [LEND, LEND], 2])

    def test_the_bounds_are_quick(self):
        rnd = random.Random(214)
        names = ["p" + letter for letter in LETTERS[:12]]
        start = time.perf_counter()
        for number in range(6):
            words = [one + other for one in "abcd" for other in "abcdef"][:rnd.choice([3, 8, 24])]
            rules = [(kind, rnd.choice(words[:3]), sorted(set((rnd.choice(words), rnd.choice(words)) for _ in range(9)))) for kind in ("fetch", "hand") * 5]
            rights = [(rnd.choice(names), rnd.choice(words), rnd.choice(names)) for _ in range(120)]
            policy, short = Policy(rules + [("make", words[:3])]), Policy(rules[:7] + [("make", words[:3])])
            state, small = State(names[:8], names[8:], rights), State(names[:8], names[8:], rights[:14])
            wishes = [[rnd.choice(all_rights(state, words)) for _ in range(rnd.randint(0, 2))] for _ in range(2)]
            least_mends(policy, small, *wishes, 3)
            least_taken(short, state, *wishes)
            least_unwilling(policy, state, *wishes)
            at_odds(policy, small, all_rights(small, words), wishes[1])
        self.assertLess(time.perf_counter() - start, 20)


class AtOddsTest(unittest.TestCase):

    def test_at_odds(self):
        taken = ("ann", "use", "bob")
        for wanted, told in (([], []), ([("ann", "own", "bob")] * 2, [("ann", "own", "bob")]), ([taken, ("ann", "lend", "bob"), OWN], [("ann", "lend", "bob"), taken]),
                             ([("ann", "see", "bob"), ("bob", "own", "bob")], [])):
            self.assertEqual(at_odds(POLICY, STATE, wanted, [taken, taken]), told)
        self.assertEqual(at_odds(POLICY, STATE, [taken, OWN, ("ann", "see", "ann")], [USE]), [OWN, ("ann", "see", "ann"), taken])
        self.assertEqual(at_odds(POLICY, STATE, [taken, OWN], []), [])
        self.assertEqual(at_odds(POLICY, STATE, [("ann", "other", "box")], [("ann", "other", "box")]), [("ann", "other", "box")])

    def test_against_trying_each(self):
        rnd = random.Random(215)
        sizes = set()
        for policy, state in cases(216, 150, "abc", rights=(0, 6)):
            wanted, promises = (rnd.sample(all_rights(state, "abcd"), many) for many in (4, rnd.randint(0, 2)))
            plain = [right for right in sorted(wanted) if any(one in plain_rounds(policy, state + [right]) for one in promises)]
            self.assertEqual(at_odds(policy, state, wanted, promises), plain)
            sizes.add(len(plain))
        self.assertTrue({0, 1, 2, 4} <= sizes, sizes)

    def test_fetched_over_what_is_wanted(self):
        state = State(["ann", "bob"], ["box"], [("bob", "use", "box"), ("bob", "take", "ann")])
        self.assertEqual(at_odds(FETCH, state, [("ann", "take", "bob"), ("box", "take", "bob")], [USE]), [("ann", "take", "bob")])


if __name__ == "__main__":
    unittest.main()
