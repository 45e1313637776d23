import itertools
import random
import time
import unittest

from handedkeys.errors import BadNumber, BadPolicy, BadRight, BadState, TooLarge
from handedkeys.gifts import gifts_but, least_gifts
from handedkeys.policies import Policy
from handedkeys.states import State
from tests.tools import FETCH, all_rights, cases, plain_rounds, refused

LETTERS = "abcdefghijklm"
MEET = Policy([("meet", "key", "use", "open")])
STATE = State(["ann"], ["box"])
GOAL = ("ann", "open", "box")


def plain_gifts(state, policy, right):
    """The ascending list of all rights that could be given."""
    words = sorted(set(policy.words()) | {word for _, word, _ in state} | {right[1]})
    return sorted(one for one in all_rights(state, words) if one not in state)


def plain_least(policy, state, right, most):
    """The least sets of gifts, by going through all sets."""
    found = []
    for many in range(most + 1):
        for group in itertools.combinations(plain_gifts(state, policy, right), many):
            if not any(set(less) <= set(group) for less in found) and right in plain_rounds(policy, state + group):
                found.append(group)
    return found


class LeastGiftsTest(unittest.TestCase):

    def test_most_none_one_and_two(self):
        single, pair = (GOAL,), (("ann", "key", "box"), ("ann", "use", "box"))
        self.assertEqual(least_gifts(MEET, STATE, GOAL, 0), [])
        self.assertEqual(least_gifts(MEET, STATE, GOAL), [single])
        self.assertEqual(least_gifts(MEET, STATE, GOAL, most=2), [single, pair])
        keyed = STATE + pair[:1]
        self.assertEqual(least_gifts(MEET, keyed, GOAL, 2), [single, pair[1:]])
        self.assertEqual(least_gifts(MEET, keyed + pair[1:], GOAL, 2), [()])
        self.assertEqual(least_gifts(MEET, STATE, ("box", "open", "ann"), 2), [(("box", "open", "ann"),)])

    def test_a_right_that_can_come_up_without_any(self):
        for most in (0, 1, 2):
            self.assertEqual(least_gifts(MEET, STATE + [GOAL], GOAL, most), [()])
        large = State(list(LETTERS[:12]), [], [("a", "take", "b"), ("b", "use", "c")])
        for most in (0, 1, 2):
            self.assertEqual(least_gifts(FETCH, large, ("a", "use", "c"), most), [()])

    def test_words_of_the_policy_of_the_state_and_of_the_right(self):
        state = State(["ann"], [], [("ann", "state", "ann")])
        self.assertEqual(least_gifts(Policy([]), state, ("ann", "right", "ann"), 2), [(("ann", "right", "ann"),)])
        found = least_gifts(Policy([("raise", "one", "two"), ("raise", "two", "three")]), state, ("ann", "three", "ann"))
        self.assertEqual(found, [(("ann", "one", "ann"),), (("ann", "three", "ann"),), (("ann", "two", "ann"),)])
        lent = Policy([("fetch", "take", [("use", "use")])])
        self.assertEqual(least_gifts(lent, State(["ann"], ["box"], [("box", "own", "box"), ("box", "use", "ann")]), ("ann", "use", "ann")),
                         [(("ann", "take", "box"),), (("ann", "use", "ann"),)])

    def test_gifts_on_the_way_to_made_things(self):
        policy = Policy([("make", ["give"]), ("hand", "give", [("use", "use")]), ("fetch", "take", [("use", "use"), ("give", "give")])])
        state = State(["ann", "bob"], [], [("bob", "take", "ann"), ("ann", "use", "bob")])
        for right in all_rights(state, ["use", "give"]):
            self.assertEqual(least_gifts(policy, state, right, 2), plain_least(policy, state, right, 2))

    def test_against_going_through_all_sets(self):
        sizes = set()
        for policy, state in cases(151, 90, "abc", people=(1, 2), things=(0, 1), rights=(0, 5), rules=(1, 4)):
            for right in random.Random(8).sample(all_rights(state, "abd"), 3):
                for most in (0, 1, 2):
                    found = least_gifts(policy, state, right, most)
                    self.assertEqual(found, plain_least(policy, state, right, most), (policy.rules, state.rights, right))
                sizes |= {(len(one), len([other for other in found if len(other) == len(one)]) > 1) for one in found}
        self.assertEqual(sizes, {(0, False), (1, False), (1, True), (2, False), (2, True)})

    def test_just_sixty_and_sixty_one(self):
        policy = Policy([("raise", "wa", "wb"), ("raise", "wb", "wc"), ("raise", "wd", "wc"), ("raise", "we", "wf"), ("raise", "wg", "wh"),
                         ("raise", "wi", "wj"), ("raise", "wk", "wl"), ("meet", "wm", "wn", "wo")])
        sixty = State(["ann"], ["box"])
        goal = ("ann", "wo", "box")
        self.assertEqual(len(plain_gifts(sixty, policy, goal)), 60)
        self.assertEqual(least_gifts(policy, sixty, goal, 2), [(goal,), (("ann", "wm", "box"), ("ann", "wn", "box"))])
        self.assertEqual(gifts_but(policy, sixty, goal, []), [goal])
        self.assertEqual(gifts_but(policy, sixty + [("box", "wa", "box")], goal, []), [goal])
        more = State(["ann"], ["box"], [("ann", "wa", "box"), ("ann", "wb", "box"), ("ann", "x", "box")])
        self.assertEqual(len(plain_gifts(more, policy, goal)), 61)
        for call, rest in ((least_gifts, []), (least_gifts, [2]), (gifts_but, [[]])):
            refused(self, TooLarge, call, policy, more, goal, *rest)
        refused(self, TooLarge, least_gifts, policy, sixty, ("ann", "other", "box"))
        self.assertEqual(least_gifts(policy, more, goal, 0), [])
        self.assertEqual(least_gifts(policy, more, ("ann", "wc", "box"), 2), [()])
        refused(self, TooLarge, gifts_but, policy, more, ("ann", "wc", "box"), [])

    def test_errors_in_order(self):
        large, many = State(list(LETTERS), []), State(list(LETTERS[:12]), [])
        for call in (least_gifts, gifts_but):
            self.assertIsNone(refused(self, BadPolicy, call, None, None, "bad", "bad").number)
            self.assertIsNone(refused(self, BadState, call, MEET, None, "bad", "bad").part)
            refused(self, TooLarge, call, MEET, large, "bad", "bad")
            for right in ("bad", list(GOAL), ("ann", "open", "tin"), ("ann", "open"), None):
                refused(self, BadRight, call, MEET, STATE, right, "bad")
        for most in (3, -1, True, False, None, "1", 1.0):
            refused(self, BadNumber, least_gifts, MEET, many, ("a", "open", "b"), most)
            refused(self, BadNumber, least_gifts, MEET, STATE + [GOAL], GOAL, most)
        refused(self, TooLarge, least_gifts, MEET, many, ("a", "open", "b"))
        for promises in (None, "bad", GOAL, [list(GOAL)], [("a", "open", "tin")], [("a", "", "a")], {("a", "open", "a"): 1}):
            refused(self, BadRight, gifts_but, MEET, many, ("a", "open", "b"), promises)
        refused(self, TooLarge, gifts_but, MEET, many, ("a", "open", "b"), [("a", "open", "b")])

    def test_the_bounds_are_quick(self):
        rnd = random.Random(152)
        start = time.perf_counter()
        for parties, many in ((12, 1), (5, 3), (3, 8), (2, 16), (1, 60)):
            words = [one + other for one in "abcdefgh" for other in "abcdefgh"][:many]
            names = ["p" + letter for letter in LETTERS[:parties]]
            for number in range(4):
                rules = [(kind, rnd.choice(words), sorted(set((rnd.choice(words), rnd.choice(words)) for _ in range(9)))) for kind in ("fetch", "hand") * 5]
                policy = Policy(rules + [("make", words[:9])] * (number % 2))
                absent = rnd.sample(all_rights(State(names, []), words), 60) if parties > 1 else []
                held = [right for right in all_rights(State(names, []), words) if right not in absent]
                state = State(names[:1 + number * parties // 4], names[1 + number * parties // 4:], held if absent else [])
                goal = absent[0] if absent else ("pa", rnd.choice(words), "pa")
                if len(plain_gifts(state, policy, goal)) <= 60:
                    least_gifts(policy, state, goal, 2)
                    gifts_but(policy, state, goal, absent[1:2])
        self.assertLess(time.perf_counter() - start, 12)


class GiftsButTest(unittest.TestCase):

    def test_promises(self):
        policy = Policy([("raise", "own", "use"), ("raise", "own", "lend")])
        use, own, lend = (("ann", word, "box") for word in ("use", "own", "lend"))
        self.assertEqual(gifts_but(policy, STATE, use, []), [own, use])
        self.assertEqual(gifts_but(policy, STATE, use, [lend, lend]), [use])
        self.assertEqual(gifts_but(policy, STATE, use, (use,)), [])
        self.assertEqual(gifts_but(policy, STATE, use, [("box", "lend", "ann")]), [own, use])
        self.assertEqual(gifts_but(policy, STATE, use, [("box", "other", "ann")]), [own, use])

    def test_promises_that_come_up_anyhow(self):
        policy = Policy([("raise", "own", "use")])
        use, see = ("ann", "use", "box"), ("box", "see", "ann")
        self.assertEqual(gifts_but(policy, STATE + [see], use, [see]), [])
        self.assertEqual(gifts_but(policy, STATE + [("ann", "own", "box")], ("ann", "use", "ann"), [use]), [])

    def test_rights_that_come_up_anyhow(self):
        policy = Policy([("raise", "own", "use")])
        state = STATE + [("ann", "own", "box")]
        absent = plain_gifts(state, policy, ("ann", "use", "box"))
        self.assertEqual(gifts_but(policy, state, ("ann", "use", "box"), []), absent)
        self.assertEqual(gifts_but(policy, state, ("ann", "use", "box"), [("ann", "use", "ann")]),
                         [right for right in absent if right not in (("ann", "use", "ann"), ("ann", "own", "ann"))])

    def test_against_trying_each(self):
        rnd = random.Random(153)
        sizes = set()
        for policy, state in cases(154, 150, "abc", people=(1, 2), things=(0, 2), rights=(0, 5)):
            right, promises = rnd.choice(all_rights(state, "abd")), rnd.sample(all_rights(state, "abcd"), rnd.randint(0, 3))
            plain = []
            absent = plain_gifts(state, policy, right)
            if len(absent) > 60:
                refused(self, TooLarge, gifts_but, policy, state, right, promises)
                continue
            for one in absent:
                come = plain_rounds(policy, state + [one])
                if right in come and not any(promised in come for promised in promises):
                    plain.append(one)
            self.assertEqual(gifts_but(policy, state, right, promises), plain, (policy.rules, state.rights, right, promises))
            sizes.add(len(plain))
        self.assertTrue({0, 1, 2, 3} <= sizes, sizes)

    def test_arguments_stay(self):
        promises = [("ann", "key", "box")]
        gifts_but(MEET, STATE, GOAL, promises).clear()
        least_gifts(MEET, STATE, GOAL, 2).clear()
        self.assertEqual([promises, len(STATE), len(least_gifts(MEET, STATE, GOAL, 2))], [[("ann", "key", "box")], 0, 2])


if __name__ == "__main__":
    unittest.main()
