import itertools
import random
import time
import unittest

from handedkeys.errors import BadParty, BadPolicy, BadRight, BadState, TooLarge
from handedkeys.likeness import alike, can_be_added, classes, keeps, likenesses, rooms, wall
from handedkeys.policies import Policy
from handedkeys.states import State
from tests.tools import ALL, BOTH, FETCH, all_rights, cases, plain_rounds, random_state, refused

LETTERS = "abcdefghijklm"
TWINS = State(["ann", "bob"], ["box", "cup"], [("ann", "own", "box"), ("bob", "own", "box")])
STATE = State(["ann", "bob"], ["box"], [("bob", "use", "box"), ("ann", "own", "ann")])


def plain_likenesses(state):
    """All likenesses, by going through all orders of the parties."""
    parties = state.parties()
    found = []
    for images in itertools.permutations(parties):
        sent = dict(zip(parties, images))
        if sorted(sent[name] for name in state.people) == state.people:
            if sorted((sent[one], word, sent[other]) for one, word, other in state) == state.rights:
                found.append(sent)
    return found


class LikenessTest(unittest.TestCase):

    def test_parties_that_are_alike(self):
        same, swapped = {name: name for name in TWINS.parties()}, {"ann": "bob", "bob": "ann", "box": "box", "cup": "cup"}
        self.assertEqual(likenesses(TWINS), [same, swapped])
        self.assertEqual([list(sent) for sent in likenesses(TWINS)], [TWINS.parties()] * 2)
        self.assertEqual(classes(TWINS), [["ann", "bob"], ["box"], ["cup"]])
        self.assertTrue(alike(TWINS, "ann", "bob") and alike(TWINS, "bob", "ann") and alike(TWINS, "box", "box"))
        self.assertFalse(alike(TWINS, "box", "cup") or alike(TWINS, "cup", "box") or alike(TWINS, "ann", "box"))

    def test_none_but_the_map_onto_itself(self):
        for state in (TWINS + [("ann", "use", "box")], TWINS + [("ann", "own", "bob")], TWINS + [("ann", "own", "ann")], State(["ann"], []),
                      State([], ["box"], [("box", "own", "box")])):
            self.assertEqual(likenesses(state), [{name: name for name in state.parties()}])
            self.assertEqual(classes(state), [[name] for name in state.parties()])
        self.assertEqual(len(likenesses(TWINS + [("ann", "own", "bob"), ("bob", "own", "ann")])), 2)
        self.assertEqual(len(likenesses(TWINS + [("ann", "own", "bob"), ("bob", "use", "ann")])), 1)
        self.assertEqual(len(likenesses(TWINS - TWINS.rights)), 4)

    def test_people_are_never_sent_to_things(self):
        state = State(["cat", "ann"], ["box", "den"])
        self.assertEqual(likenesses(state), [dict(zip(["ann", "box", "cat", "den"], images)) for images in
                                             (["ann", "box", "cat", "den"], ["ann", "den", "cat", "box"],
                                              ["cat", "box", "ann", "den"], ["cat", "den", "ann", "box"])])
        self.assertEqual(classes(state), [["ann", "cat"], ["box", "den"]])
        self.assertFalse(alike(state, "ann", "box"))

    def test_rings_turn(self):
        names = list("abcde")
        ring = State(names, [], [(one, "see", other) for one, other in zip(names, names[1:] + names[:1])])
        self.assertEqual(likenesses(ring), [dict(zip(names, names[turn:] + names[:turn])) for turn in range(5)])
        self.assertEqual(classes(ring), [names])

    def test_against_going_through_all_orders(self):
        counts = set()
        rnd = random.Random(121)
        for number in range(120):
            state = random_state(rnd, ["a", "b"][:rnd.randint(1, 2)], rnd.randint(1, 4), rnd.randint(0, 2), rnd.randint(0, 6))
            found = likenesses(state)
            self.assertEqual(found, plain_likenesses(state))
            self.assertEqual(found, sorted(found, key=lambda sent: list(sent.values())))
            counts.add(len(found))
            orbits = [sorted({sent[name] for sent in found}) for name in state.parties()]
            self.assertEqual(classes(state), sorted(one for number, one in enumerate(orbits) if one not in orbits[:number]))
            for one, other in itertools.product(state.parties(), repeat=2):
                self.assertIs(alike(state, one, other), any(sent[one] == other for sent in found))
        self.assertTrue({1, 2, 4, 6} <= counts, counts)

    def test_seven_parties_and_eight(self):
        start = time.perf_counter()
        seven = State(list(LETTERS[:7]), [])
        self.assertEqual(len(likenesses(seven)), 5040)
        self.assertEqual(classes(seven), [list(LETTERS[:7])])
        self.assertTrue(alike(seven, "g", "a"))
        self.assertEqual(len(likenesses(State([], list(LETTERS[:7]), [("a", "use", "b")]))), 120)
        self.assertLess(time.perf_counter() - start, 5)
        eight = State(list(LETTERS[:4]), list(LETTERS[4:8]))
        for call, rest in ((likenesses, []), (classes, []), (alike, ["a", "b"])):
            refused(self, TooLarge, call, eight, *rest)

    def test_errors_in_order(self):
        large = State(list(LETTERS), [])
        for call, rest in ((likenesses, []), (classes, []), (alike, ["bad", "bad"])):
            for state in (None, "state", TWINS.rights, FETCH):
                self.assertIsNone(refused(self, BadState, call, state, *rest).part)
        for name in ("zoe", None, 1, ["a"], ("a",)):
            self.assertEqual(refused(self, BadParty, alike, large, name, "zed").name, name)
            self.assertEqual(refused(self, BadParty, alike, large, "a", name).name, name)
        refused(self, TooLarge, alike, large, "a", "b")

    def test_answers_are_new(self):
        likenesses(TWINS)[0].clear()
        classes(TWINS)[0].clear()
        self.assertEqual([len(likenesses(TWINS)[0]), classes(TWINS)[0]], [4, ["ann", "bob"]])


class WallTest(unittest.TestCase):

    def test_wall(self):
        state = STATE + [("ann", "take", "bob")]
        self.assertEqual(wall(FETCH, state, "use", "box"), ["ann", "bob"])
        self.assertEqual(wall(FETCH, state, "use", "ann"), [])
        self.assertEqual(wall(FETCH, state, "own", "ann"), ["ann"])
        self.assertEqual(wall(FETCH, state, "never", "ann"), [])
        self.assertEqual(wall(Policy([]), State([], ["box"], [("box", "use", "box")]), "use", "box"), ["box"])

    def test_rooms(self):
        state = STATE + [("ann", "take", "bob")]
        self.assertEqual(list(rooms(FETCH, state, "use").items()), [("ann", ["box"]), ("bob", ["box"]), ("box", [])])
        self.assertEqual(rooms(FETCH, state, "own"), {"ann": ["ann"], "bob": [], "box": []})
        self.assertEqual(rooms(FETCH, state, "never"), {"ann": [], "bob": [], "box": []})
        rooms(FETCH, state, "use")["ann"].clear()
        self.assertEqual(rooms(FETCH, state, "use")["ann"], ["box"])

    def test_against_all_that_comes(self):
        for policy, state in cases(122, 100, "abcd", rights=(0, 9)):
            come, parties = plain_rounds(policy, state), state.parties()
            for word in "abcde":
                found = rooms(policy, state, word)
                self.assertEqual(list(found), parties)
                self.assertEqual(found, {one: [other for other in parties if (one, word, other) in come] for one in parties})
                for party in parties:
                    self.assertEqual(wall(policy, state, word, party), [one for one in parties if (one, word, party) in come])

    def test_errors_in_order(self):
        large = State(list(LETTERS), [])
        for call, rest in ((wall, ["Bad", "bad"]), (rooms, ["Bad"])):
            self.assertIsNone(refused(self, BadPolicy, call, None, None, *rest).number)
            self.assertIsNone(refused(self, BadState, call, FETCH, None, *rest).part)
            refused(self, TooLarge, call, FETCH, large, *rest)
            for word in ("", "Use", "ninechars", "use it", None, 1, ["use"], b"use", "\u00e9"):
                refused(self, BadRight, call, FETCH, STATE, word, *rest[1:])
        for name in ("zoe", "annz", None, 3, ["ann"]):
            self.assertEqual(refused(self, BadParty, wall, FETCH, STATE, "use", name).name, name)


class PromisesTest(unittest.TestCase):

    def test_keeps(self):
        state = STATE + [("ann", "take", "bob")]
        use, own, take = ("ann", "use", "box"), ("ann", "own", "ann"), ("bob", "take", "ann")
        self.assertEqual(keeps(FETCH, state, [use, take, own, use]), [own, use])
        self.assertEqual(keeps(FETCH, state, (take,) * 2), [])
        self.assertEqual(keeps(FETCH, state, ()), [])
        self.assertEqual(keeps(FETCH, state, [("ann", "other", "box")]), [])

    def test_can_be_added(self):
        state = State(["ann", "bob"], ["box"], [("bob", "use", "box"), ("ann", "own", "ann")])
        promised = [("ann", "use", "box")]
        found = can_be_added(FETCH, state, promised * 2)
        absent = [right for right in all_rights(state, ["own", "take", "use"]) if right not in state]
        self.assertEqual(found, sorted(set(absent) - {("ann", "use", "box"), ("ann", "take", "bob")}))
        self.assertEqual(can_be_added(FETCH, state, []), sorted(absent))
        self.assertEqual(can_be_added(FETCH, state, [("bob", "use", "box")]), [])
        self.assertEqual(can_be_added(FETCH, state, [("bob", "other", "box")]), sorted(absent))
        self.assertNotIn(("box", "own", "box"), can_be_added(FETCH, state, [("box", "own", "box")]))
        self.assertEqual(can_be_added(Policy([]), State(["ann"], []), []), [])

    def test_against_trying_each(self):
        rnd = random.Random(123)
        sizes = []
        for policy, state in cases(124, 70, "abc", people=(1, 2), things=(0, 2), rights=(0, 5)):
            words = sorted(set(policy.words()) | {word for _, word, _ in state})
            promises = rnd.sample(all_rights(state, "abcd"), rnd.randint(1, 2))
            plain = []
            for right in all_rights(state, words):
                come = plain_rounds(policy, state + [right]) if right not in state else promises
                if not any(promised in come for promised in promises):
                    plain.append(right)
            self.assertEqual(can_be_added(policy, state, promises), sorted(plain), (policy.rules, state.rights, promises))
            come = plain_rounds(policy, state)
            self.assertEqual(keeps(policy, state, promises * 2), sorted(one for one in promises if one in come))
            sizes.append((len(plain), len(all_rights(state, words)) - len(state)))
        self.assertGreater(len([added for added, absent in sizes if 0 < added < absent - 1]), 9)

    def test_six_parties_and_seven(self):
        start = time.perf_counter()
        rnd = random.Random(125)
        words = [one + other for one in "abcde" for other in "abcdefgh"]
        for number in range(4):
            policy = Policy([(kind, rnd.choice(words[:4]), sorted(set((rnd.choice(words), rnd.choice(words)) for _ in range(9))))
                             for kind in ("fetch", "hand") * 5] + [("make", words[:9])])
            names = list(LETTERS[:6])
            six = State(names, [], [(rnd.choice(names), rnd.choice(words), rnd.choice(names)) for _ in range(20 * number)])
            found = can_be_added(policy, six, [("a", words[5], "b")])
            self.assertLess(len(found), len(words) * 36)
        self.assertLess(time.perf_counter() - start, 12)
        seven = State(list(LETTERS[:7]), [])
        refused(self, TooLarge, can_be_added, FETCH, seven, [])
        self.assertEqual(keeps(FETCH, seven, [("a", "use", "b")]), [])

    def test_errors_in_order(self):
        large = State(list(LETTERS), [])
        for call in (keeps, can_be_added):
            self.assertIsNone(refused(self, BadPolicy, call, None, None, "bad").number)
            self.assertIsNone(refused(self, BadState, call, BOTH, None, "bad").part)
            refused(self, TooLarge, call, BOTH, large, "bad")
            for promises in (None, "bad", {("ann", "use", "box"): 1}, [["ann", "use", "box"]], [("ann", "use", "tin")], [("ann", "Use", "box")],
                             ("ann", "use", "box"), [("ann", "use", "box"), 1], [("ann", "use", "box", "cup")], [("ann", "use", [])]):
                refused(self, BadRight, call, BOTH, STATE, promises)
        refused(self, TooLarge, can_be_added, BOTH, State(list(LETTERS[:7]), []), "bad")
        refused(self, BadRight, keeps, BOTH, State(list(LETTERS[:7]), []), "bad")

    def test_arguments_stay(self):
        promises = [("ann", "use", "box"), ("ann", "own", "ann")]
        keeps(ALL, STATE, promises)
        can_be_added(ALL, STATE, promises)
        self.assertEqual([promises, len(STATE)], [[("ann", "use", "box"), ("ann", "own", "ann")], 2])


if __name__ == "__main__":
    unittest.main()
