import unittest

from handedkeys.errors import BadParty, BadState
from handedkeys.states import State
from tests.tools import refused


class StateTest(unittest.TestCase):

    def setUp(self):
        self.state = State(["bob", "ann"], ("cup", "box"), [("bob", "use", "ann"), ("ann", "use", "cup"),
                                                             ("ann", "own", "cup"), ("bob", "use", "ann")])

    def test_lists_ascend_without_doublets(self):
        self.assertEqual(self.state.people, ["ann", "bob"])
        self.assertEqual(self.state.things, ["box", "cup"])
        self.assertEqual(self.state.rights, [("ann", "own", "cup"), ("ann", "use", "cup"), ("bob", "use", "ann")])
        for listed in (self.state.people, self.state.things, self.state.rights):
            self.assertIs(type(listed), list)

    def test_len_iteration_and_in(self):
        self.assertEqual(len(self.state), 3)
        self.assertEqual(list(self.state), self.state.rights)
        self.assertEqual([right for right in self.state], self.state.rights)
        self.assertIn(("bob", "use", "ann"), self.state)
        for value in (("bob", "use", "bob"), ["bob", "use", "ann"], "bob", None, 1, ("bob", "use")):
            self.assertNotIn(value, self.state)

    def test_rights_on_oneself_and_of_things(self):
        state = State([], ["box"], (("box", "use", "box"),))
        self.assertEqual([state.people, list(state)], [[], [("box", "use", "box")]])

    def test_equal(self):
        same = State(("ann", "bob"), ["box", "cup"], tuple(reversed(self.state.rights)))
        self.assertTrue(self.state == same)
        self.assertFalse(self.state != same)
        self.assertFalse(self.state == State(["ann", "bob", "box"], ["cup"], self.state.rights))
        self.assertFalse(self.state == State(["ann", "bob"], ["box", "cup", "tin"], self.state.rights))
        self.assertFalse(self.state == State(["ann", "bob", "dan"], ["box", "cup"], self.state.rights))
        self.assertFalse(self.state == self.state - [("ann", "own", "cup")])
        self.assertFalse(self.state == self.state.rights)
        self.assertFalse(self.state == None)  # noqa: E711

    def test_plus_and_minus(self):
        more = self.state + (("box", "see", "cup"), ("ann", "own", "cup"))
        self.assertEqual(list(more), [("ann", "own", "cup"), ("ann", "use", "cup"), ("bob", "use", "ann"),
                                      ("box", "see", "cup")])
        self.assertEqual(list(more - (("bob", "use", "ann"), ("box", "see", "cup"), ("box", "see", "box"))),
                         [("ann", "own", "cup"), ("ann", "use", "cup")])
        self.assertEqual(len(self.state), 3)
        self.assertTrue(self.state + [] == self.state and self.state - [] == self.state)
        self.assertEqual((more.people, more.things), (self.state.people, self.state.things))

    def test_plus_refuses_what_are_no_rights(self):
        for rights in ([("ann", "use", "dan")], [("ann", "Use", "bob")], [["ann", "use", "bob"]], 5, None,
                       ("ann", "use", "bob"), {("ann", "use", "bob"): 1}):
            with self.assertRaises(BadState) as caught:
                self.state + rights
            self.assertEqual(caught.exception.part, "rights")

    def test_parties_and_words(self):
        self.assertEqual(self.state.parties(), ["ann", "bob", "box", "cup"])
        self.assertEqual(State(["zoe"], ["box"]).parties(), ["box", "zoe"])
        self.assertEqual(self.state.words("ann", "cup"), ["own", "use"])
        self.assertEqual(self.state.words("cup", "ann"), [])
        self.assertEqual([self.state.words("ann", "box"), self.state.words("bob", "cup")], [[], []])

    def test_words_names_the_first_that_is_no_party(self):
        self.assertEqual(refused(self, BadParty, self.state.words, "dan", "eve").name, "dan")
        self.assertEqual(refused(self, BadParty, self.state.words, "ann", "eve").name, "eve")
        self.assertEqual(refused(self, BadParty, self.state.words, 3, "eve").name, 3)
        self.assertEqual(refused(self, BadParty, self.state.words, "ann", ["bob"]).name, ["bob"])

    def test_renamed(self):
        self.assertEqual(list(self.state.renamed({"ann": "bob", "bob": "ann", "cup": "mug"})),
                         [("ann", "use", "bob"), ("bob", "own", "mug"), ("bob", "use", "mug")])
        self.assertTrue(self.state.renamed({}) == self.state)
        self.assertEqual(self.state.renamed({"box": "aaa"}).things, ["aaa", "cup"])

    def test_renamed_refuses(self):
        for names in ([("ann", "eve")], None, {"dan": "eve"}, {1: "eve"}, {True: "eve", "ann": "Bad"}):
            self.assertEqual(refused(self, BadState, self.state.renamed, names).part, "names")
        for new in ("bob", "Eve", "", 5, None, ["eve"], "ninechars"):
            self.assertEqual(refused(self, BadState, self.state.renamed, {"ann": new}).part, "people")
        for new in ("ann", "cup", "x1", True, ("eve",)):
            self.assertEqual(refused(self, BadState, self.state.renamed, {"box": new}).part, "things")
        self.assertEqual(refused(self, BadState, self.state.renamed, {"ann": "box", "cup": 1}).part, "things")

    def test_words_are_of_one_to_eight_small_letters(self):
        self.assertEqual(State(["a"], ["abcdefgh", "z"]).things, ["abcdefgh", "z"])
        for name in ("", "abcdefghi", "A", "a1", "a b", "a+", "\u00e4", "\u00df", " a", "a\n", b"a", 1, None, True, ["a"]):
            self.assertEqual(refused(self, BadState, State, [name], []).part, "people")
            self.assertEqual(refused(self, BadState, State, [], [name]).part, "things")
            self.assertEqual(refused(self, BadState, State, ["a"], ["b"], [("a", name, "b")]).part, "rights")

    def test_refusals_in_order(self):
        for people in ("ann", None, 5, {"ann": 1}, ["ann", "ann"], ["ann", 1], {"ann"}):
            self.assertEqual(refused(self, BadState, State, people, "bad", "bad").part, "people")
        for things in ("box", None, ["box", "box"], ["box", "ann"], ("box", "Box")):
            self.assertEqual(refused(self, BadState, State, ["ann"], things, "bad").part, "things")
        self.assertEqual(refused(self, BadState, State, [], (), "bad").part, "parties")
        for rights in ("bad", None, 7, [("ann", "use")], [("ann", "use", "box", "box")], [["ann", "use", "box"]],
                       [("ann", "use", "tin")], [("tin", "use", "ann")], [("ann", 1, "box")], [(True, "use", "box")],
                       [("ann", "use", "box"), 3], ("ann", "use", "box"), [(["ann"], "use", "box")],
                       [("ann", ["use"], "box")], [("ann", "use", ["box"])], [("ann", "use", None)]):
            self.assertEqual(refused(self, BadState, State, ["ann"], ["box"], rights).part, "rights")

    def test_what_is_given_is_copied(self):
        people, things, rights = ["bob", "ann"], ["box"], [("bob", "use", "box"), ("ann", "use", "box")]
        state = State(people, things, rights)
        self.assertEqual([people, things, len(rights)], [["bob", "ann"], ["box"], 2])
        people.append("cat")
        things.clear()
        rights.pop()
        self.assertTrue(state == State(["ann", "bob"], ["box"], [("bob", "use", "box"), ("ann", "use", "box")]))
        names = {"ann": "eve"}
        state.renamed(names)
        self.assertEqual(names, {"ann": "eve"})
        more = [("ann", "own", "box")]
        behind = state + more
        more.clear()
        self.assertEqual(len(behind), 3)

    def test_what_is_returned_is_new(self):
        self.state.parties().clear()
        self.state.words("ann", "cup").clear()
        self.assertEqual(self.state.parties(), ["ann", "bob", "box", "cup"])
        self.assertEqual(self.state.words("ann", "cup"), ["own", "use"])
        for other in (self.state + [], self.state - [], self.state.renamed({})):
            other.people.clear()
            other.things.clear()
            other.rights.clear()
        self.assertEqual([len(self.state), len(self.state.parties())], [3, 4])


if __name__ == "__main__":
    unittest.main()
