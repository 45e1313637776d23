import unittest

from handedkeys.deeds import can, deeds_now, done
from handedkeys.errors import BadDeed, BadPolicy, BadState
from handedkeys.policies import Policy
from handedkeys.states import State
from tests.tools import cases, plain_deeds, refused

POLICY = Policy([("fetch", "ask", [("own", "use"), ("use", "use")]), ("hand", "give", [("use", "see")]),
                 ("raise", "own", "use"), ("meet", "own", "use", "give"), ("make", ["own", "give"])])
STATE = State(["ann", "bob"], ["box", "cup"], [
    ("ann", "ask", "bob"), ("bob", "own", "cup"), ("bob", "use", "box"), ("bob", "give", "ann"), ("ann", "own", "ann"),
    ("ann", "use", "ann"), ("box", "ask", "bob"), ("bob", "give", "bob"), ("ann", "own", "box")])
PAIR = ("use", "use")


class DeedsTest(unittest.TestCase):

    def test_each_kind_of_deed(self):
        for deed, brought in (((0, "ann", "bob", "box", PAIR), ("ann", "use", "box")),
                              ((0, "ann", "bob", "cup", ("own", "use")), ("ann", "use", "cup")),
                              ((1, "bob", "ann", "box", ("use", "see")), ("ann", "see", "box")),
                              ((2, "bob", "cup"), ("bob", "use", "cup")),
                              ((3, "ann", "ann"), ("ann", "give", "ann"))):
            self.assertTrue(can(POLICY, STATE, deed), deed)
            self.assertTrue(done(POLICY, STATE, [deed]) == STATE + [brought], deed)

    def test_the_same_party_in_several_places(self):
        for deed, brought in (((1, "bob", "bob", "box", ("use", "see")), ("bob", "see", "box")),
                              ((2, "ann", "ann"), ("ann", "use", "ann"))):
            self.assertTrue(done(POLICY, STATE, [deed]) == STATE + [brought])
        fetch = Policy([("fetch", "ask", [("ask", "use")])])
        state = State(["ann"], [], [("ann", "ask", "ann")])
        deed = (0, "ann", "ann", "ann", ("ask", "use"))
        self.assertEqual(list(deeds_now(fetch, state)), [deed])
        self.assertEqual(list(done(fetch, state, [deed])), [("ann", "ask", "ann"), ("ann", "use", "ann")])

    def test_what_is_brought_may_be_there(self):
        deed = (2, "ann", "ann")
        self.assertTrue(can(POLICY, STATE, deed))
        self.assertTrue(done(POLICY, STATE, [deed, deed]) == STATE)

    def test_makes(self):
        made = done(POLICY, STATE, ((4, "ann", "tin"), (2, "ann", "tin"), (4, "bob", "aa")))
        self.assertEqual(made.things, ["aa", "box", "cup", "tin"])
        self.assertEqual(made.people, STATE.people)
        self.assertEqual(made.rights, (State(made.people, made.things, STATE.rights) + [
            ("ann", "own", "tin"), ("ann", "give", "tin"), ("ann", "use", "tin"), ("bob", "own", "aa"),
            ("bob", "give", "aa")]).rights)
        for deed in ((4, "ann", "cup"), (4, "ann", "bob"), (4, "ann", "Tin"), (4, "ann", ""), (4, "cup", "tin"),
                     (4, "dan", "tin"), (4, "ann", "ninechars"), (4, "ann", 5), (4, "ann", "ann+")):
            self.assertFalse(can(POLICY, STATE, deed), deed)
        twice = [(4, "ann", "tin"), (4, "bob", "tin")]
        self.assertEqual(refused(self, BadDeed, done, POLICY, STATE, twice).place, 1)

    def test_drops(self):
        deed = ("drop", "ann", "ask", "bob")
        self.assertTrue(can(POLICY, STATE, deed))
        self.assertTrue(done(POLICY, STATE, [deed]) == STATE - [("ann", "ask", "bob")])
        self.assertEqual(refused(self, BadDeed, done, POLICY, STATE, [deed, deed]).place, 1)
        fetch = (0, "ann", "bob", "box", PAIR)
        self.assertEqual(refused(self, BadDeed, done, POLICY, STATE, [deed, fetch]).place, 1)
        back = [("drop", "ann", "use", "ann"), (2, "ann", "ann")]
        self.assertTrue(done(POLICY, STATE, back) == STATE)
        for deed in (("drop", "box", "ask", "bob"), ("drop", "ann", "see", "bob"), ("drop", "bob", "ask", "ann"),
                     ("drop", "ann", "ask"), ("drop", "ann", "ask", "bob", "bob"), ("drop", "ann", "ask", "dan"),
                     ["drop", "ann", "ask", "bob"], ("take", "ann", "ask", "bob"), ("drop", ["ann"], "ask", "bob"),
                     ("drop", 1, "ask", "bob"), ("drop", ("ann", "ask", "bob"))):
            self.assertFalse(can(POLICY, STATE, deed), deed)

    def test_deeds_that_cannot_be_done(self):
        for deed in ((0, "bob", "ann", "box", PAIR), (0, "box", "bob", "box", PAIR), (0, "ann", "bob", "ann", PAIR),
                     (0, "ann", "bob", "dan", PAIR), (0, "dan", "bob", "box", PAIR), (1, "ann", "bob", "box", ("use", "see")),
                     (1, "bob", "ann", "cup", ("use", "see")), (2, "ann", "bob"), (3, "ann", "box"), (3, "bob", "cup"),
                     (2, "cup", "box"), (2, "ann", "dan")):
            self.assertFalse(can(POLICY, STATE, deed), deed)
            self.assertEqual(refused(self, BadDeed, done, POLICY, STATE, [(2, "ann", "ann"), deed]).place, 1)

    def test_values_that_are_no_deeds(self):
        for deed in (None, 5, "deed", (), (0,), (0, "ann"), (5, "ann", "box"), (-1, "ann", "tin"), (2, "ann", "ann", "ann"),
                     [2, "ann", "ann"], (False, "ann", "bob", "box", PAIR), (True, "bob", "ann", "box", ("use", "see")),
                     (0, "ann", "bob", "box"), (0, "ann", "bob", "box", ["use", "use"]), (0, "ann", "bob", "box", ("use", "see")),
                     (0, "ann", "bob", "box", None), (0, "ann", "bob", "box", {}), (0, "ann", "bob", "box", PAIR, PAIR),
                     (2, "ann", "ann", None), (2, ["ann"], "ann"), (2, "ann", 7), ("2", "ann", "ann"), (2.0, "ann", "ann"),
                     (None, "ann", "ann"), ([2], "ann", "ann"), {"drop": 1}, (0, "ann", ["bob"], "box", PAIR),
                     (0, ["ann"], "bob", "box", PAIR), (0, "ann", "bob", ["box"], PAIR), (0, "ann", "bob", {}, PAIR), (2, "ann", ("ann",))):
            self.assertFalse(can(POLICY, STATE, deed), deed)
            self.assertEqual(refused(self, BadDeed, done, POLICY, STATE, [(2, "bob", "cup"), deed, 5]).place, 1)

    def test_done_tells_the_place_and_changes_nothing(self):
        deeds = [(2, "bob", "cup"), (4, "ann", "tin"), (3, "ann", "tin"), (2, "ann", "tin")]
        held = list(STATE.rights)
        self.assertEqual(refused(self, BadDeed, done, POLICY, STATE, deeds).place, 2)
        self.assertEqual([STATE.rights, STATE.things, len(deeds)], [held, ["box", "cup"], 4])
        self.assertEqual(len(done(POLICY, STATE, deeds[:2] + deeds[3:] + deeds[2:3])), len(STATE) + 4)
        self.assertEqual([STATE.rights, STATE.things], [held, ["box", "cup"]])

    def test_what_is_no_list_of_deeds(self):
        for deeds in (None, 5, "deeds", {}, {1: 2}):
            self.assertIsNone(refused(self, BadDeed, done, POLICY, STATE, deeds).place)
        self.assertTrue(done(POLICY, STATE, ()) == STATE)
        self.assertEqual(refused(self, BadDeed, done, POLICY, STATE, (2, "bob", "cup")).place, 0)

    def test_deeds_now_in_order(self):
        found = list(deeds_now(POLICY, STATE))
        self.assertEqual(found, [(0, "ann", "bob", "box", PAIR), (0, "ann", "bob", "cup", ("own", "use")),
                                 (1, "bob", "ann", "box", ("use", "see")), (1, "bob", "bob", "box", ("use", "see")),
                                 (2, "ann", "box"), (2, "bob", "cup"), (3, "ann", "ann")])

    def test_deeds_now_against_going_through_all(self):
        for policy, state in cases(3, 200, people=(1, 3), rights=(0, 9)):
            plain = [deed for deed, right in plain_deeds(policy, state.people, state.parties(), set(state.rights))
                     if right not in state]
            self.assertEqual(list(deeds_now(policy, state)), sorted(set(plain)))
            for deed in plain:
                self.assertTrue(can(policy, state, deed))
                self.assertEqual(len(done(policy, state, [deed])), len(state) + 1)

    def test_errors_of_deeds_now_come_with_the_first_one(self):
        found = deeds_now(None, STATE)
        self.assertIsNone(refused(self, BadPolicy, next, found).number)
        found = deeds_now(POLICY, None)
        self.assertIsNone(refused(self, BadState, next, found).part)
        self.assertEqual(list(deeds_now(POLICY, State(["ann"], []))), [])

    def test_errors_in_order(self):
        for call in (can, done):
            self.assertIsNone(refused(self, BadPolicy, call, POLICY.rules, None, None).number)
            self.assertIsNone(refused(self, BadState, call, POLICY, STATE.rights, None).part)
        self.assertIsNone(refused(self, BadPolicy, next, deeds_now(None, None)).number)

    def test_more_than_twelve_parties_are_no_error_here(self):
        state = State(["ann"], ["t" + letter for letter in "abcdefghijklmnop"], [("ann", "own", "tp")])
        self.assertTrue(can(POLICY, state, (2, "ann", "tp")))
        self.assertEqual(len(done(POLICY, state, [(2, "ann", "tp")])), 2)
        self.assertEqual(list(deeds_now(POLICY, state)), [(2, "ann", "tp")])


if __name__ == "__main__":
    unittest.main()
