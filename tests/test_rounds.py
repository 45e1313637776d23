import time
import unittest

from handedkeys.errors import BadNumber, BadPolicy, BadRight, BadState, NeverComes, TooLarge
from handedkeys.policies import Policy
from handedkeys.rounds import at_once, last_round, round_for, rounds
from handedkeys.states import State
from tests.tools import ALL, FETCH, all_rights, between, cases, plain_rounds, refused

CHAIN = State(["ann", "bob", "cat", "dan", "eve"], ["box"], [
    ("ann", "take", "bob"), ("bob", "take", "cat"), ("cat", "take", "dan"), ("dan", "take", "eve"), ("eve", "use", "box")])


class RoundsTest(unittest.TestCase):

    def test_chains_of_several_rounds(self):
        found = rounds(FETCH, CHAIN)
        self.assertEqual(list(found), sorted(found))
        self.assertEqual([found[name, "use", "box"] for name in CHAIN.people], [3, 2, 2, 1, 0])
        self.assertEqual([found["ann", "take", name] for name in CHAIN.people[1:]], [0, 1, 2, 2])
        self.assertEqual(last_round(FETCH, CHAIN), 3)
        self.assertNotIn(("ann", "use", "ann"), found)

    def test_rights_that_are_there(self):
        self.assertEqual(round_for(FETCH, CHAIN, ("eve", "use", "box")), 0)
        self.assertEqual(rounds(Policy([]), CHAIN), {right: 0 for right in CHAIN.rights})
        self.assertEqual([last_round(Policy([]), CHAIN), last_round(FETCH, State(["ann"], []))], [0, 0])
        self.assertEqual(rounds(Policy([]), State(["ann"], [], [("ann", "zzz", "ann")])), {("ann", "zzz", "ann"): 0})

    def test_things_are_made_in_the_first_round(self):
        policy = Policy([("make", ["own"]), ("fetch", "own", [("own", "use")]), ("hand", "own", [("own", "own")]),
                         ("raise", "use", "see")])
        one = State(["ann"], [])
        self.assertEqual([rounds(policy, one), last_round(policy, one)], [{}, 4])
        self.assertEqual(last_round(policy, State([], ["box"])), 0)
        self.assertEqual(last_round(Policy([("make", ["own"])]), one), 1)
        self.assertEqual(last_round(Policy([("make", ["own"])]), State(["ann"], [], [("ann", "own", "ann")])), 1)
        hand = Policy([("hand", "own", [("own", "own"), ("give", "give")]), ("fetch", "own", [("give", "see")]), ("make", ["own"])])
        state = State(["ann"], ["box"], [("ann", "give", "box")])
        self.assertEqual(rounds(hand, state), {("ann", "give", "box"): 0, ("ann", "see", "box"): 3})

    def test_last_round_counts_made_things(self):
        policy = Policy([("make", ["own"]), ("raise", "own", "use"), ("raise", "use", "see")])
        state = State(["ann"], ["box"], [("ann", "own", "box")])
        self.assertEqual(max(rounds(policy, state).values()), 2)
        self.assertEqual(last_round(policy, state), 3)

    def test_against_working_it_out_plainly(self):
        for policy, state in cases(11, 300, "abc", rights=(0, 8), rules=(1, 5)):
            plain = plain_rounds(policy, state)
            found = rounds(policy, state)
            self.assertEqual(found, {right: plain[right] for right in between(state, plain)})
            self.assertEqual(list(found), sorted(found))
            self.assertEqual(last_round(policy, state), max(plain.values(), default=0))
            for number in (0, 1, 2, 3, 50):
                self.assertEqual(at_once(policy, state, number), [right for right in found if found[right] <= number])
            for right in all_rights(state, "abz"):
                if right in found:
                    self.assertEqual(round_for(policy, state, right), found[right])
                else:
                    refused(self, NeverComes, round_for, policy, state, right)

    def test_at_once(self):
        self.assertEqual(at_once(FETCH, CHAIN, 0), CHAIN.rights)
        self.assertEqual(len(at_once(FETCH, CHAIN, 1)), 9)
        self.assertEqual(at_once(FETCH, CHAIN, 3), list(rounds(FETCH, CHAIN)))
        self.assertEqual(at_once(FETCH, CHAIN, 10 ** 9), list(rounds(FETCH, CHAIN)))
        for number in (-1, True, False, None, "1", 1.0, [1]):
            refused(self, BadNumber, at_once, FETCH, CHAIN, number)

    def test_errors_in_order(self):
        large = State([letter for letter in "abcdefghijklm"], [])
        for call, rest in ((rounds, []), (last_round, []), (round_for, ["bad"]), (at_once, ["bad"])):
            self.assertIsNone(refused(self, BadPolicy, call, None, None, *rest).number)
            self.assertIsNone(refused(self, BadState, call, FETCH, None, *rest).part)
            refused(self, TooLarge, call, FETCH, large, *rest)
        refused(self, BadRight, round_for, FETCH, CHAIN, ["ann", "use", "box"])
        refused(self, BadRight, round_for, FETCH, CHAIN, ("ann", "use", "tin"))

    def test_what_is_returned_is_new(self):
        rounds(FETCH, CHAIN).clear()
        at_once(FETCH, CHAIN, 0).clear()
        self.assertEqual([len(rounds(FETCH, CHAIN)), len(at_once(FETCH, CHAIN, 0)), len(CHAIN)], [15, 5, 5])

    def test_twelve_parties(self):
        names = [letter for letter in "abcdefghijkl"]
        state = State(names, [], [(one, word, other) for one, other in zip(names, names[1:] + names[:1]) for word in "abc"])
        start = time.perf_counter()
        self.assertIn(last_round(ALL, state) - max(rounds(ALL, state).values()), (0, 1, 2))
        self.assertLess(time.perf_counter() - start, 5)


if __name__ == "__main__":
    unittest.main()
