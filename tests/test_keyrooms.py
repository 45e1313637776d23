import random
import time
import unittest

from handedkeys.closing import judge_can
from handedkeys.errors import BadDeed, BadPolicy, BadRight, BadState, NothingDone, TooLarge
from handedkeys.keyrooms import Room
from handedkeys.policies import Policy
from handedkeys.states import State
from tests.tools import all_rights, between, cases, plain_deeds, plain_rounds, refused

LETTERS = "abcdefghijklm"
POLICY = Policy([("fetch", "take", [("read", "read")]), ("raise", "own", "read"), ("make", ["own"])])
STATE = State(["ann", "bob"], ["file"], [("bob", "read", "file")])
READ, TAKE, OWN = ("ann", "read", "file"), ("ann", "take", "bob"), ("ann", "own", "file")
WRONG = (None, "bad", READ, {READ: 1}, [list(READ)], [READ, 1], [("ann", "read")], [("ann", "read", "cup")], [("ann", "Read", "bob")], [("ann", 1, "bob")], [None])


class Broken(Exception):
    pass


def seen(room):
    """All that can be seen of a room."""
    return (room.policy.rules, room.state.people, room.state.things, list(room.state), room.promises(), len(room))


def undone(room):
    """All that can be seen of a room behind each undo, till there is nothing to undo."""
    found = []
    while len(room) > 0:
        room.undo()
        found.append(seen(room))
    return found


class RoomTest(unittest.TestCase):

    def setUp(self):
        self.room = Room(POLICY, STATE)

    def test_a_new_room(self):
        self.assertTrue(self.room.policy == POLICY and self.room.state == STATE)
        self.assertEqual([len(self.room), self.room.promises(), self.room.evidence(), Room.MOST], [0, [], {}, 200])
        self.assertTrue(("bob", "read", "file") in self.room and READ not in self.room and "bad" not in self.room and ["bob", "read", "file"] not in self.room)
        refused(self, NothingDone, self.room.undo)

    def test_what_is_given_is_copied(self):
        policy, state = Policy(POLICY.rules), State(STATE.people, STATE.things, STATE.rights)
        room = Room(policy, state)
        state.rights.clear()
        state.people.append("cat")
        policy.rules = ()
        self.assertTrue(room.state == STATE and room.policy == POLICY)
        rights = [OWN]
        room.grant(rights)
        rights.append(TAKE)
        self.assertEqual(list(room.state), [OWN, ("bob", "read", "file")])
        self.assertTrue(STATE == State(["ann", "bob"], ["file"], [("bob", "read", "file")]))

    def test_do(self):
        self.room.grant([TAKE])
        self.assertIs(self.room.do([(0, "ann", "bob", "file", ("read", "read")), (2, "bob", "cup")]), self.room)
        self.assertTrue(READ in self.room and ("bob", "own", "cup") in self.room)
        self.assertEqual(self.room.state.things, ["cup", "file"])
        self.assertIs(self.room.do(()), self.room)
        before = seen(self.room)
        for deeds, place in ((None, None), ("bad", None), ([("drop", "ann", "read", "file"), (1, "ann", "file")], 1), ([(0, "ann", "bob", "file", ("read", "read")), "bad"], 1), ([(2, "ann", "cup")], 0)):
            self.assertEqual(refused(self, BadDeed, self.room.do, deeds).place, place)
            self.assertEqual(seen(self.room), before)
        self.assertEqual(len(self.room), 3)

    def test_grant_and_promise(self):
        room = self.room
        self.assertIs(room.promise([READ]), True)
        before = seen(room)
        for rights in ([TAKE], [OWN], (("bob", "take", "ann"), OWN), [READ], [TAKE, TAKE]):
            self.assertIs(room.grant(rights), False)
            self.assertEqual(seen(room), before)
        self.assertIs(room.grant([("bob", "take", "ann")] * 2), True)
        self.assertIs(room.grant(()), True)
        self.assertIs(room.grant([("bob", "read", "file")]), True)
        self.assertEqual([len(room), list(room.state)], [4, [("bob", "read", "file"), ("bob", "take", "ann")]])
        before = seen(room)
        for rights in ([("bob", "read", "file")], [("file", "own", "ann"), ("bob", "read", "file")]):
            self.assertIs(room.promise(rights), False)
            self.assertEqual(seen(room), before)
        self.assertIs(room.promise([]), True)
        self.assertIs(room.promise((READ, OWN, READ)), True)
        self.assertEqual([room.promises(), len(room)], [[OWN, READ], 6])

    def test_promises_over_made_things(self):
        room = Room(Policy([("make", ["put"]), ("hand", "put", [("own", "kept")]), ("fetch", "put", [("kept", "lent")])]), STATE)
        self.assertIs(room.promise([("ann", "lent", "file")]), True)
        self.assertIs(room.grant([OWN]), False)
        self.assertIs(room.grant([("bob", "own", "file")]), True)
        self.assertEqual(room.harmless([OWN, ("ann", "own", "bob"), ("file", "own", "file")]), [("ann", "own", "bob"), ("file", "own", "file")])

    def test_take_away(self):
        self.room.grant([TAKE, OWN])
        self.assertIs(self.room.take_away([OWN, OWN, READ]), self.room)
        self.assertEqual(list(self.room.state), [TAKE, ("bob", "read", "file")])
        self.assertIs(self.room.take_away(()), self.room)
        self.assertIs(self.room.promise([OWN]), True)
        self.room.take_away([OWN])
        self.assertEqual([len(self.room), self.room.promises()], [5, [OWN]])

    def test_release(self):
        room = self.room
        room.promise([READ, OWN, TAKE])
        before = seen(room)
        for rights in ([("bob", "own", "file")], [READ, ("file", "own", "file")], [("bob", "read", "file")]):
            refused(self, BadRight, room.release, rights)
            self.assertEqual(seen(room), before)
        self.assertIs(room.release([READ, OWN, READ]), room)
        self.assertEqual(room.promises(), [TAKE])
        self.assertIs(room.release(()), room)
        self.assertEqual([room.grant([OWN]), room.grant([TAKE]), len(room)], [True, False, 4])
        refused(self, BadRight, room.release, [READ])

    def test_evidence(self):
        room = self.room
        room.promise([READ, TAKE, OWN])
        found = room.evidence()
        self.assertEqual(list(found), [OWN, READ, TAKE])
        for right, paper in found.items():
            self.assertTrue(paper == judge_can(room.policy, room.state, right) and not paper)
            self.assertTrue(paper.shows(POLICY, STATE, right))
        found[OWN].rights.clear()
        found.clear()
        self.assertTrue(room.evidence()[OWN].shows(POLICY, STATE, OWN))

    def test_harmless(self):
        room = self.room
        rights = [TAKE, ("bob", "take", "ann"), OWN, ("bob", "take", "ann"), ("bob", "read", "file"), READ, ("ann", "zeal", "ann")]
        self.assertEqual([room.harmless(rights), room.harmless(tuple(rights)), room.harmless([])], [rights, rights, []])
        room.promise([READ])
        before = seen(room)
        self.assertEqual(room.harmless(rights), [rights[1], rights[1], rights[4], rights[6]])
        self.assertEqual([room.harmless([]), room.harmless([TAKE] * 3), seen(room), len(rights)], [[], [], before, 7])
        room.harmless(rights).clear()
        room.promises().clear()
        self.assertEqual(room.promises(), [READ])

    def test_undo_of_each_change(self):
        room = self.room
        states = [seen(room)]
        for change, rights in ((room.grant, [TAKE]), (room.promise, [OWN]), (room.take_away, [TAKE]), (room.do, [(2, "bob", "cup")]), (room.release, [OWN]),
                               (room.grant, []), (room.promise, []), (room.take_away, []), (room.do, []), (room.release, [])):
            self.assertTrue(change(rights) in (True, room))
            states.append(seen(room))
        self.assertEqual([one[-1] for one in states], list(range(11)))
        self.assertIs(room.grant([OWN]), True)
        self.assertIs(room.undo(), room)
        room.promise([("ann", "zeal", "ann")])
        self.assertIs(room.grant([("ann", "zeal", "ann")]), False)
        self.assertIs(room.promise([("bob", "read", "file")]), False)
        room.undo()
        self.assertEqual(seen(room), states[10])
        self.assertEqual(undone(room), states[9::-1])
        refused(self, NothingDone, room.undo)
        self.assertEqual(seen(room), states[0])

    def test_changes_behind_an_undo(self):
        room = self.room
        room.grant([TAKE])
        room.grant([OWN])
        room.undo().take_away([("bob", "read", "file")])
        self.assertEqual([len(room), list(room.state)], [2, [TAKE]])
        self.assertEqual([list(room.undo().state), list(room.undo().state)], [[TAKE, ("bob", "read", "file")], [("bob", "read", "file")]])

    def test_two_hundred_changes_and_one_more(self):
        room = self.room
        room.grant([OWN])
        for number in range(199):
            room.do([])
        self.assertEqual(len(room), 200)
        self.assertEqual([undone(room)[-1][3], OWN in room], [[("bob", "read", "file")], False])
        room.grant([OWN])
        for number in range(200):
            room.take_away([])
        self.assertEqual(len(room), 200)
        self.assertEqual(len(undone(room)), 200)
        self.assertTrue(OWN in room)
        refused(self, NothingDone, room.undo)


class TrialTest(unittest.TestCase):

    def setUp(self):
        self.room = Room(POLICY, STATE)
        self.room.promise([("ann", "zeal", "ann")])

    def work(self, room):
        room.grant([OWN])
        room.promise([("ann", "zest", "ann")])
        room.release([("ann", "zeal", "ann")])
        return "told"

    def test_a_trial_that_ends_well(self):
        with self.room.trial() as same:
            self.assertIs(same, self.room)
            self.work(same)
        self.assertEqual([OWN in self.room, self.room.promises(), len(self.room)], [True, [("ann", "zest", "ann")], 4])
        self.room.undo()
        self.assertEqual(self.room.promises(), [("ann", "zeal", "ann"), ("ann", "zest", "ann")])

    def test_a_trial_that_an_error_ends(self):
        before = seen(self.room)
        for error in (Broken, NothingDone, KeyboardInterrupt):
            with self.assertRaises(error):
                with self.room.trial() as same:
                    self.work(same)
                    raise error("over")
            self.assertEqual(seen(self.room), before)
        with self.assertRaises(BadDeed):
            with self.room.trial():
                self.room.undo()
                self.room.do([(2, "ann", "cup")])
                self.room.do("bad")
        self.assertEqual(seen(self.room), before)
        self.assertEqual(undone(self.room), [seen(Room(POLICY, STATE))])

    def test_undone_too_far_in_a_trial(self):
        for _ in range(4):
            self.room.grant([OWN])
        before = seen(self.room)
        with self.assertRaises(NothingDone):
            with self.room.trial():
                while True:
                    self.room.undo()
        self.assertEqual(seen(self.room), before)

    def test_trials_in_one_another(self):
        with self.room.trial():
            self.room.grant([TAKE])
            with self.assertRaises(Broken):
                with self.room.trial():
                    self.work(self.room)
                    with self.room.trial():
                        self.room.take_away([TAKE])
                    raise Broken()
            self.assertEqual([list(self.room.state), self.room.promises(), len(self.room)], [[TAKE, ("bob", "read", "file")], [("ann", "zeal", "ann")], 2])
        self.assertEqual(len(self.room), 2)
        with self.assertRaises(Broken):
            with self.room.trial():
                with self.room.trial():
                    self.work(self.room)
                raise Broken()
        self.assertEqual([len(self.room), TAKE in self.room, OWN in self.room], [2, True, False])

    def test_a_trial_begins_where_the_with_begins(self):
        trial = self.room.trial()
        self.room.grant([OWN])
        before = seen(self.room)
        with self.assertRaises(Broken):
            with trial:
                self.room.take_away([OWN])
                raise Broken()
        self.assertEqual(seen(self.room), before)

    def test_attempt(self):
        before = seen(self.room)

        def fails(room):
            self.work(room)
            raise Broken()

        with self.assertRaises(Broken):
            self.room.attempt(fails)
        self.assertEqual(seen(self.room), before)
        self.assertEqual(self.room.attempt(self.work), "told")
        self.assertEqual(len(self.room), 4)
        self.assertIs(self.room.attempt(lambda room: room), self.room)
        self.assertIsNone(self.room.attempt(lambda room: None))


class LimitsTest(unittest.TestCase):

    def test_errors_in_order(self):
        large = State(list(LETTERS), [])
        for policy in (None, POLICY.rules):
            self.assertIsNone(refused(self, BadPolicy, Room, policy, None).number)
        for state in (None, STATE.rights, "bad"):
            self.assertIsNone(refused(self, BadState, Room, POLICY, state).part)
        refused(self, TooLarge, Room, POLICY, large)
        room = Room(POLICY, STATE)
        room.promise([READ])
        before = seen(room)
        for rights in WRONG:
            for call in (room.grant, room.take_away, room.promise, room.release, room.harmless):
                refused(self, BadRight, call, rights)
                self.assertEqual(seen(room), before)

    def test_twelve_parties_and_thirteen(self):
        room = Room(POLICY, State(["ann"], list(LETTERS[1:12]), [("ann", "own", "b")]))
        own, zeal = ("ann", "own", "c"), ("ann", "zeal", "c")
        self.assertEqual([room.grant([own]), room.promise([zeal]), room.grant([zeal]), list(room.evidence()), room.harmless([zeal, own])],
                         [True, True, False, [zeal], [own]])
        room.do([(2, "ann", "new")])
        before = seen(room)
        for call, rights in ((room.grant, [own]), (room.grant, []), (room.promise, [zeal]), (room.harmless, [own])):
            refused(self, TooLarge, call, rights)
            self.assertEqual(seen(room), before)
            refused(self, BadRight, call, [own, "bad"])
        refused(self, TooLarge, room.evidence)
        self.assertEqual([room.promise([]), room.harmless([]), ("ann", "own", "new") in room], [True, [], True])
        room.take_away([own]).do([("drop", "ann", "own", "new")]).release([zeal])
        self.assertEqual([room.grant([zeal]), room.harmless([own]), room.evidence()], [True, [own], {}])
        refused(self, TooLarge, room.promise, [own])
        self.assertIs(room.undo().undo().undo().undo().undo().undo().promise([own]), False)

    def test_against_trying_each(self):
        told = {"grant": set(), "promise": set(), "harmless": set()}
        rnd = random.Random(321)
        for policy, state in cases(322, 120, rights=(0, 4)):
            room = Room(policy, state)
            choices = all_rights(state, "abcd")
            for _ in range(6):
                rights = [rnd.choice(choices) for _ in range(rnd.randint(0, 2))]
                promises = room.promises()
                if rnd.random() < 0.5:
                    fits = not any(right in plain_rounds(policy, room.state + rights) for right in promises)
                    self.assertIs(room.grant(rights), fits)
                    told["grant"].add(fits)
                else:
                    fits = not any(right in plain_rounds(policy, room.state) for right in rights)
                    self.assertIs(room.promise(rights), fits)
                    told["promise"].add(fits)
                deeds = [deed for deed, _ in plain_deeds(policy, room.state.people, room.state.parties(), room.state.rights)]
                if deeds:
                    room.do([rnd.choice(deeds)])
                some = [rnd.choice(choices) for _ in range(5)]
                plain = [right for right in some if not any(one in plain_rounds(policy, room.state + [right]) for one in room.promises())]
                self.assertEqual(room.harmless(some), plain)
                told["harmless"].add(len(plain))
                self.assertFalse(set(between(room.state, plain_rounds(policy, room.state))) & set(room.promises()))
                self.assertEqual(list(room.evidence()), room.promises())
        self.assertEqual([told["grant"], told["promise"]], [{True, False}] * 2)
        self.assertTrue({2, 4, 5} <= told["harmless"], told)

    def test_the_bounds_are_quick(self):
        rnd = random.Random(323)
        names = ["p" + letter for letter in LETTERS[:12]]
        start = time.perf_counter()
        for number in range(3):
            words = [one + other for one in "abcd" for other in "abcdef"][:rnd.choice([3, 8, 24])]
            rules = [(kind, rnd.choice(words[:3]), sorted(set((rnd.choice(words), rnd.choice(words)) for _ in range(9)))) for kind in ("fetch", "hand") * 5]
            room = Room(Policy(rules + [("make", words[:3])]), State(names[:8], names[8:], [(rnd.choice(names), rnd.choice(words), rnd.choice(names)) for _ in range(60)]))
            room.promise([(one, "zeal", other) for one in names[:4] for other in names])
            choices = all_rights(room.state, words)
            room.harmless(choices)
            room.evidence()
            for right in choices[:60]:
                room.grant([right])
                room.promise([right])
        self.assertLess(time.perf_counter() - start, 15)


if __name__ == "__main__":
    unittest.main()
