import itertools
import random
import time
import unittest

from handedkeys.errors import BadPolicy
from handedkeys.policies import Policy
from handedkeys.states import State
from handedkeys.worths import is_worth, least_words, same_words, strongest, together, worth
from tests.tools import ALL, plain_rounds, random_policy, refused

POLICY = Policy([("raise", "own", "use"), ("raise", "use", "see"), ("raise", "see", "use"), ("meet", "see", "key", "own")])
# what is handed to a made thing comes back as another word
MAKING = Policy([("make", ["put"]), ("hand", "put", [("own", "kept")]), ("fetch", "put", [("kept", "lent")])])


def plain_together(policy, words):
    """The words that ann can get on the box, by the rounds."""
    come = plain_rounds(policy, State(["ann"], ["box"], [("ann", word, "box") for word in words]))
    return sorted(word for one, word, other in come if (one, other) == ("ann", "box"))


class WorthTest(unittest.TestCase):

    def test_worth(self):
        self.assertEqual([worth(POLICY, "own"), worth(POLICY, "use"), worth(POLICY, "key")], [["own", "see", "use"], ["see", "use"], ["key"]])
        self.assertTrue(is_worth(POLICY, "own", "see") and is_worth(POLICY, "see", "use") and is_worth(POLICY, "key", "key"))
        self.assertFalse(is_worth(POLICY, "see", "own") or is_worth(POLICY, "key", "own") or is_worth(POLICY, "own", "key"))

    def test_words_that_the_policy_does_not_have(self):
        for policy in (POLICY, Policy([]), MAKING):
            self.assertEqual(worth(policy, "other"), ["other"])
            self.assertTrue(is_worth(policy, "other", "other"))
            self.assertFalse(is_worth(policy, "other", "own") or is_worth(policy, "own", "other"))
            self.assertEqual(least_words(policy, "other"), [])
        self.assertEqual(together(POLICY, ["other", "own"]), ["other", "own", "see", "use"])

    def test_together(self):
        for words, told in (([], []), (["key"], ["key"]), (("key", "see"), ["key", "own", "see", "use"]), (["key", "key", "see", "key"], ["key", "own", "see", "use"]),
                            (["see", "see"], ["see", "use"]), (["zoo", "all"], ["all", "zoo"])):
            self.assertEqual(together(POLICY, words), told)
        self.assertEqual(together(MAKING, []), [])

    def test_a_policy_with_a_make(self):
        self.assertEqual([worth(MAKING, "own"), worth(MAKING, "put"), worth(MAKING, "kept")], [["lent", "own"], ["put"], ["kept"]])
        self.assertEqual(worth(Policy(MAKING.rules[1:]), "own"), ["own"])
        self.assertEqual([same_words(MAKING), strongest(MAKING)], [[["kept"], ["lent"], ["own"], ["put"]], ["kept", "own", "put"]])
        self.assertEqual(least_words(MAKING, "lent"), [("lent",), ("own",)])
        locked = MAKING + Policy([("meet", "lent", "key", "see")])
        self.assertEqual(least_words(locked, "see"), [("see",), ("key", "lent"), ("key", "own")])
        self.assertEqual(together(locked, ["own", "key"]), ["key", "lent", "own", "see"])

    def test_words_on_the_thing_that_reach_itself(self):
        policy = Policy([("hand", "give", [("give", "give"), ("use", "use")]), ("fetch", "give", [("use", "own")])])
        self.assertEqual(worth(policy, "give"), ["give"])
        self.assertEqual(together(policy, ["give", "use"]), ["give", "own", "use"])
        self.assertEqual(least_words(policy, "own"), [("own",), ("give", "use")])

    def test_same_words_and_strongest(self):
        self.assertEqual([same_words(Policy([])), strongest(Policy([]))], [[], []])
        ring = Policy([("raise", "b", "c"), ("raise", "c", "a"), ("raise", "a", "b"), ("raise", "d", "a")])
        self.assertEqual([same_words(ring), strongest(ring)], [[["a", "b", "c"], ["d"]], ["d"]])
        self.assertEqual(strongest(Policy(ring.rules[:3])), ["a", "b", "c"])

    def test_least_words(self):
        self.assertEqual(least_words(POLICY, "own"), [("own",), ("key", "see"), ("key", "use")])
        self.assertEqual(least_words(POLICY, "see"), [("own",), ("see",), ("use",)])
        self.assertEqual(least_words(Policy([("meet", "a", "b", "c"), ("meet", "b", "d", "c"), ("raise", "d", "a")]), "c"), [("c",), ("a", "b"), ("b", "d")])
        self.assertEqual(least_words(Policy([("meet", "a", "b", "d"), ("meet", "c", "d", "e")]), "e"), [("e",), ("c", "d")])
        self.assertEqual(least_words(Policy([]), "a"), [])

    def test_against_the_rounds(self):
        rnd = random.Random(191)
        pairs, alike, weaker = 0, 0, 0
        for number in range(300):
            words = ["a", "b", "c", "d", "e"][:rnd.randint(1, 5)]
            more = [(kind,) + tuple(rnd.choices(words, k=many)) for kind, many in rnd.choices([("raise", 2), ("meet", 3)], k=5)]
            policy = random_policy(rnd, words, rnd.randint(1, 6), number % 2 == 1) + Policy(more)
            mine = policy.words()
            worths = {word: plain_together(policy, [word]) for word in mine + ["f"]}
            for word in worths:
                self.assertEqual(worth(policy, word), worths[word])
                for other in worths:
                    self.assertIs(is_worth(policy, word, other), other in worths[word])
            for many in range(4):
                given = [rnd.choice(words + ["f"]) for _ in range(many)]
                self.assertEqual(together(policy, given), plain_together(policy, given))
            classes = [[other for other in mine if other in worths[word] and word in worths[other]] for word in mine]
            self.assertEqual(same_words(policy), sorted(one for at, one in enumerate(classes) if one not in classes[:at]))
            top = [word for word in mine if all(other in worths[word] for other in mine if word in worths[other])]
            self.assertEqual(strongest(policy), top)
            alike, weaker = alike + (len(max(classes, key=len)) > 1), weaker + (len(top) < len(mine))
            goal = rnd.choice(mine)
            least = [(word,) for word in mine if goal in worths[word]]
            least += [both for both in itertools.combinations(mine, 2) if goal in plain_together(policy, both)
                      and not any((word,) in least for word in both)]
            self.assertEqual(least_words(policy, goal), least, (policy.rules, goal))
            pairs += len(least[-1]) == 2
        self.assertTrue(pairs > 15 and alike > 50 and weaker > 50, (pairs, alike, weaker))

    def test_refusals(self):
        for call, rest in ((worth, ["Bad"]), (is_worth, ["Bad", "bad"]), (together, ["Bad"]), (same_words, []), (strongest, []), (least_words, ["Bad"])):
            for policy in (None, POLICY.rules, "policy"):
                self.assertIsNone(refused(self, BadPolicy, call, policy, *rest).number)
        for word in ("", "Own", "ninechars", "own it", None, 1, True, ["own"], b"own", "\u00e9"):
            self.assertEqual(refused(self, BadPolicy, worth, POLICY, word).number, word)
            self.assertEqual(refused(self, BadPolicy, least_words, POLICY, word).number, word)
            self.assertEqual(refused(self, BadPolicy, is_worth, POLICY, word, "Other").number, word)
            self.assertEqual(refused(self, BadPolicy, is_worth, POLICY, "own", word).number, word)
            self.assertIsNone(refused(self, BadPolicy, together, POLICY, ["own", word]).number)
        self.assertIsNone(refused(self, BadPolicy, together, None, ["own"]).number)
        self.assertIsNone(refused(self, BadPolicy, together, None, []).number)
        for words in (None, "own", {"own": 1}, 5, {"own"}):
            self.assertIsNone(refused(self, BadPolicy, together, POLICY, words).number)

    def test_arguments_stay(self):
        words = ["see", "key", "see"]
        together(POLICY, words).clear()
        worth(POLICY, "own").clear()
        same_words(POLICY)[0].clear()
        self.assertEqual([words, worth(POLICY, "own"), same_words(POLICY)[0]], [["see", "key", "see"], ["own", "see", "use"], ["key"]])
        self.assertEqual(worth(ALL, "c"), ["a", "c"])

    def test_many_words_are_quick(self):
        rnd = random.Random(192)
        words = [one + other for one in "abcdefghijkl" for other in "abcdefghijklmnopqrst"]
        start = time.perf_counter()
        for kinds in (["fetch"] * 11, ["hand"] * 11, ["fetch", "hand", "meet"] * 3 + ["fetch", "meet"]):
            for many in (20, 60, 220):
                some = words[:many]
                rules = [("meet",) + tuple(rnd.sample(some, 3)) if kind == "meet" else
                         (kind, rnd.choice(some[:3]), sorted(set((rnd.choice(some), rnd.choice(some)) for _ in range(9)))) for kind in kinds]
                policy = Policy(rules + [("make", some[:9])])
                mine = policy.words()
                same_words(policy), strongest(policy), least_words(policy, mine[0]), least_words(policy, mine[-1])
        policy = Policy([("fetch", words[19 * at], [(words[19 * at + k], words[19 * at + k + 9]) for k in range(1, 10)]) for at in range(12)])
        self.assertEqual(len(policy.words()), 228)
        least_words(policy, policy.words()[-1]), same_words(policy), strongest(policy)
        self.assertLess(time.perf_counter() - start, 15)


if __name__ == "__main__":
    unittest.main()
