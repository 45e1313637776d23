import itertools
import random
import time
import unittest

from handedkeys.errors import BadDeed, BadParty, BadPolicy, BadState, TooLarge
from handedkeys.plans import judge_plans
from handedkeys.policies import Policy
from handedkeys.states import State
from handedkeys.templates import AlwaysSame, SometimesOther, Template, judge_templates, ways
from tests.test_plans import POLICY, READ, drawn_plan, names_of
from tests.tools import ALL, random_policy, refused

SWAP = [(2, "ann", "x"), ("drop", "ann", "own", "y")]


def swapped(plan=SWAP, names=("x", "y")):
    """Two templates: a plan, and the same plan from its last deed on."""
    return Template(POLICY, list(names), plan), Template(POLICY, list(names), plan[::-1])


def plain_ways(names, fixed):
    """All ways in the order that the document tells, name after name."""
    def follow(way):
        if len(way) == len(names):
            yield way
            return
        new = list(dict.fromkeys(word for word in way if word not in fixed))
        fresh = next(one + other for one, other in itertools.product("abcdefghijklmnopqrstuvwxyz", repeat=2) if one + other not in fixed + new)
        for word in fixed + new + [fresh]:
            yield from follow(way + (word,))
    return list(follow(()))


def same_by_plans(one, other, words):
    """Whether two templates' plans do the same with all tuples of some words."""
    return all(judge_plans(one.policy, one.fill(parties), other.fill(parties)) for parties in itertools.product(words, repeat=len(one.names)))


def drawn_templates(seed, many):
    """Generate pairs of templates of one policy."""
    rnd = random.Random(seed)
    for number in range(many):
        policy = ALL if number % 3 == 0 else random_policy(rnd, list("abc"), rnd.randint(1, 3), True)
        plan = drawn_plan(rnd, policy, "abc", rnd.randint(1, 3))
        other = rnd.choice([plan[::-1], plan + plan[:1], plan[:-1], plan[1:] + plan[:1]])
        names = rnd.sample(sorted(set(names_of(plan)) | {"zoe"}), rnd.randint(0, 2))
        yield Template(policy, names, plan), Template(policy, names, other)


class TemplateTest(unittest.TestCase):

    def test_attributes_and_equality(self):
        names, plan = ("x", "y"), tuple(SWAP)
        template = Template(POLICY, names, plan)
        self.assertEqual([template.names, template.plan, template.policy == POLICY], [["x", "y"], SWAP, True])
        self.assertEqual([type(template.names), type(template.plan)], [list, list])
        self.assertTrue(template == Template(Policy(POLICY.rules), ["x", "y"], SWAP) and not template != Template(POLICY, names, plan))
        for other in (Template(POLICY, ["y", "x"], SWAP), Template(POLICY, ["x"], SWAP), Template(POLICY, names, SWAP[:1]), Template(Policy(POLICY.rules + POLICY.rules[2:3]), names, SWAP), None, SWAP):
            self.assertFalse(template == other)

    def test_what_is_given_is_copied(self):
        names, plan, policy = ["x"], list(SWAP), Policy(POLICY.rules)
        template = Template(policy, names, plan)
        names.append("y")
        plan.clear()
        policy.rules = ()
        self.assertEqual([template.names, template.plan, template.policy.rules], [["x"], SWAP, POLICY.rules])
        template.fill(["bob"]).clear()
        template.fixed().clear()
        self.assertEqual([template.names, template.plan, template.fixed()], [["x"], SWAP, ["ann", "y"]])

    def test_fill_and_fixed(self):
        plan = [(0, "x", "y", "x", READ), (1, "y", "new"), (3, "ann", "x"), ("drop", "x", "x", "y")]
        template = Template(POLICY, ["x", "y", "gone"], plan)
        self.assertEqual(template.fill(["y", "ann", "box"]), [(0, "y", "ann", "y", READ), (1, "ann", "new"), (3, "ann", "y"), ("drop", "y", "x", "ann")])
        self.assertEqual(template.fill(("bob", "bob", "bob")), [(0, "bob", "bob", "bob", READ), (1, "bob", "new"), (3, "ann", "bob"), ("drop", "bob", "x", "bob")])
        self.assertEqual(template.fixed(), ["ann", "new"])
        self.assertEqual([Template(POLICY, [], plan).fill(()), Template(POLICY, (), plan).fixed()], [plan, ["ann", "new", "x", "y"]])
        made = Template(POLICY, ["read", "new"], [(1, "ann", "new"), (4, "ann", "read", "new", READ)])
        self.assertEqual([made.fill(["bob", "tin"]), made.fixed()], [[(1, "ann", "tin"), (4, "ann", "bob", "tin", READ)], ["ann"]])
        self.assertEqual([Template(POLICY, ["x"], []).fill(["bob"]), Template(POLICY, ["x"], []).fixed()], [[], []])

    def test_refusals_of_a_template(self):
        wrong = ("xy", None, ["x", "x"], ["X"], [1], {"x": 1}, ["x", "ninechars"], [None])
        for policy in (None, POLICY.rules):
            self.assertIsNone(refused(self, BadPolicy, Template, policy, "bad", "bad").number)
        for plan, place in (("bad", None), ([SWAP[0], "bad"], 1), ([(9, "ann", "x")], 0), ({0: 1}, None)):
            for names in wrong + (list("abcdef"),):
                self.assertEqual(refused(self, BadDeed, Template, POLICY, names, plan).place, place)
        for names in wrong + (list("abcdefa"), list("abcdeF")):
            self.assertIsNone(refused(self, BadParty, Template, POLICY, names, SWAP).name)
        refused(self, TooLarge, Template, POLICY, list("abcdef"), SWAP)
        self.assertEqual(len(Template(POLICY, list("abcde"), SWAP).names), 5)

    def test_refusals_of_fill(self):
        template = Template(POLICY, ["x", "y"], SWAP)
        for parties in (None, "xy", ["bob"], ["bob"] * 3, {"x": 1, "y": 2}, [], ["Bob"], 2):
            self.assertIsNone(refused(self, BadParty, template.fill, parties).name)
        for parties, name in ((["bob", "Bob"], "Bob"), ([1, "Bob"], 1), (["ninechars", None], "ninechars"), (("bob", ["bob"]), ["bob"])):
            self.assertEqual(refused(self, BadParty, template.fill, parties).name, name)


class WaysTest(unittest.TestCase):

    def test_no_names_and_names_that_the_plan_has_not(self):
        self.assertEqual(ways(Template(POLICY, [], SWAP)), [()])
        self.assertEqual(ways(Template(POLICY, ["q"], SWAP)), [("ann",), ("x",), ("y",), ("aa",)])
        self.assertEqual(ways(Template(POLICY, ["q", "r"], [])), [("aa", "aa"), ("aa", "ab")])

    def test_of_one_and_of_several(self):
        one, other = Template(POLICY, ["x"], [(2, "bob", "x")]), Template(POLICY, ["x"], [(2, "ann", "x"), (2, "cat", "bob")])
        self.assertEqual([ways(one), ways(one, one)], [[("bob",), ("aa",)]] * 2)
        self.assertEqual([ways(one, other), ways(other, one, one)], [[("ann",), ("bob",), ("cat",), ("aa",)]] * 2)
        ways(one).clear()
        self.assertEqual(len(ways(one)), 2)

    def test_new_words_are_none_of_the_fixed_ones(self):
        template = Template(POLICY, ["x", "y", "z"], [(2, "ab", "x"), (2, "aa", "ad")])
        found = ways(template)
        self.assertEqual(found[:5], [("aa", "aa", "aa"), ("aa", "aa", "ab"), ("aa", "aa", "ad"), ("aa", "aa", "ac"), ("aa", "ab", "aa")])
        self.assertEqual(found[-5:], [("ac", "ae", "ab"), ("ac", "ae", "ad"), ("ac", "ae", "ac"), ("ac", "ae", "ae"), ("ac", "ae", "af")])
        self.assertEqual(ways(Template(POLICY, ["aa"], [(2, "aa", "bob")])), [("bob",), ("aa",)])

    def test_where_all_words_of_two_letters_are_fixed(self):
        letters = "abcdefghijklmnopqrstuvwxyz"
        template = Template(POLICY, ["x"], [(2, one + other, "x") for one, other in itertools.product(letters, repeat=2)])
        found = ways(template)
        self.assertEqual(found[:-1], list(itertools.product([one + other for one, other in itertools.product(letters, repeat=2)])))
        self.assertNotIn(found[-1][0], template.fixed())

    def test_in_order(self):
        for fixed in ([], ["aa"], ["ann", "box"], ["a", "ab", "b"]):
            for names in ([], ["x"], ["x", "y"], ["x", "y", "z"], ["x", "y", "z", "u"]):
                plan = [(2, name, (fixed + names)[-1]) for name in fixed]
                self.assertEqual(ways(Template(POLICY, names, plan)), plain_ways(names, fixed))

    def test_two_thousand_ways_and_more(self):
        names = list("vwxyz")
        self.assertEqual(len(ways(Template(POLICY, names, [(2, "a", "b"), (2, "c", "x")]))), 1915)
        refused(self, TooLarge, ways, Template(POLICY, names, [(2, "a", "b"), (2, "c", "d")]))
        wide = [(2, "p" + one + other, "p" + one + third) for one in "abcdefghijklmnopqrst" for other, third in itertools.product("abcdefghij", repeat=2)]
        wide += [(2, "q" + one + other, "q" + one + other) for one in "abcdefghijklmnopqrst" for other in "abcdefghijklmnopqrstuvwxyz"]
        many = Template(POLICY, ["x"], wide)
        self.assertEqual(len(ways(many)), 1 + len(many.fixed()))
        self.assertLess(len(many.fixed()), 2000)
        more = [(2, "r" + one + other + third, "a") for one in "abcd" for other, third in itertools.product("abcdefghijklmnopqrstuvwxyz", repeat=2)]
        refused(self, TooLarge, ways, Template(POLICY, ["x"], wide + more))
        self.assertEqual(len(ways(Template(POLICY, [], wide + more))), 1)
        refused(self, TooLarge, ways, Template(POLICY, ["x", "y"], wide))
        exact = Template(POLICY, ["x"], (wide + more)[:2520 + 1278])
        self.assertEqual(len(exact.fixed()) + 1, 200 + 520 + 1278 + 1 + 1)
        self.assertEqual(len(ways(exact)), 2000)

    def test_refusals_in_order(self):
        one = Template(POLICY, ["x"], SWAP)
        unlike, renamed = Template(ALL, ["y"], []), Template(POLICY, ["y"], SWAP)
        large = Template(POLICY, list("vwxyz"), [(2, "a", "b"), (2, "c", "d")])
        calls = (ways, judge_templates, AlwaysSame(1).shows, SometimesOther(["a"], None).shows)
        self.assertIsNone(refused(self, BadPolicy, ways).number)
        self.assertIsNone(refused(self, BadPolicy, ways, None).number)
        for call in calls:
            for first, second in ((None, one), (one, None), (one, POLICY), (one, unlike), (unlike, one), (renamed, unlike), ("bad", "bad"), (large, unlike)):
                self.assertIsNone(refused(self, BadPolicy, call, first, second).number)
            for first, second in ((one, renamed), (one, Template(POLICY, [], SWAP)), (large, one), (Template(POLICY, ["x", "y"], []), Template(POLICY, ["y", "x"], []))):
                self.assertIsNone(refused(self, BadParty, call, first, second).name)
            refused(self, TooLarge, call, large, large)
        refused(self, BadPolicy, ways, one, renamed, unlike)
        refused(self, BadPolicy, ways, one, renamed, 5)


class JudgeTemplatesTest(unittest.TestCase):

    def test_always_the_same(self):
        one, other = swapped([(2, "ann", "x"), (2, "bob", "y")])
        found = judge_templates(one, other)
        self.assertIs(bool(found), True)
        self.assertEqual(found.number, len(ways(one, other)))
        self.assertTrue(found.shows(one, other) and found == AlwaysSame(10) and not found == AlwaysSame(9) and not found == 10)
        for number in (0, 9, 11):
            self.assertIs(AlwaysSame(number).shows(one, other), False)
        self.assertTrue(judge_templates(one, one) and judge_templates(Template(POLICY, [], SWAP), Template(POLICY, [], SWAP)))
        self.assertEqual(judge_templates(Template(POLICY, [], []), Template(POLICY, [], [])).number, 1)

    def test_where_names_fall_together(self):
        one, other = swapped()
        found = judge_templates(one, other)
        self.assertIs(bool(found), False)
        self.assertEqual(type(found.parties), list)
        self.assertEqual(found.parties[0], found.parties[1])
        self.assertTrue(found.shows(one, other))
        self.assertFalse(AlwaysSame(len(ways(one, other))).shows(one, other))
        self.assertTrue(judge_plans(POLICY, one.fill(["box", "cup"]), other.fill(["box", "cup"])))

    def test_where_a_name_falls_together_with_a_fixed_one(self):
        plan = [(2, "ann", "box"), ("drop", "ann", "own", "y")]
        one, other = swapped(plan, ["y"])
        found = judge_templates(one, other)
        self.assertEqual(found.parties, ["box"])
        self.assertTrue(found.shows(one, other))
        only = Template(POLICY, ["y"], [(2, "ann", "y")]), Template(POLICY, ["y"], [(2, "ann", "y"), (2, "bob", "box"), (2, "bob", "box")])
        self.assertFalse(judge_templates(*only))

    def test_fixed_names_of_either(self):
        one = Template(POLICY, ["y"], [("drop", "ann", "own", "y"), (2, "ann", "y")])
        other = Template(POLICY, ["y"], [("drop", "ann", "own", "y"), ("drop", "ann", "own", "y")])
        self.assertTrue(judge_templates(one, other))
        self.assertIs(judge_templates(one, other).number, 2)
        third = Template(POLICY, ["y"], [("drop", "ann", "own", "y"), ("drop", "ann", "own", "y"), (2, "bob", "cup")])
        self.assertEqual(judge_templates(one, third).number, 4)

    def test_bent_evidence(self):
        one, other = swapped()
        state = State(["ann"], ["box"], [("ann", "own", "box")])
        self.assertTrue(SometimesOther(["box", "box"], state).shows(one, other) and SometimesOther(("box", "box"), state).shows(one, other))
        for parties in (["box", "cup"], ["cup", "cup"], ["box"], ["box"] * 3, [], ["ann", "ann"]):
            self.assertIs(SometimesOther(parties, state).shows(one, other), False)
        self.assertIs(SometimesOther(["box", "box"], State(["ann"], ["box"])).shows(one, other), False)
        for parties, name in (([1, "Bad"], 1), (["box", "Bad"], "Bad"), ([None, "x"], None)):
            self.assertEqual(refused(self, BadParty, SometimesOther(parties, None).shows, one, other).name, name)
        for told in (None, [], "bad"):
            self.assertIsNone(refused(self, BadState, SometimesOther(["box", "cup"], told).shows, one, other).part)
            self.assertIs(SometimesOther(["box"], told).shows(one, other), False)
            self.assertIs(SometimesOther([1], told).shows(one, other), False)
        large = State(["ann"], ["box"] + list("abcdefghijklm"), [("ann", "own", "box")])
        self.assertTrue(SometimesOther(["box", "box"], large).shows(one, other))

    def test_evidence_is_equal_and_copied(self):
        parties, state = ["box", "box"], State(["ann"], ["box"])
        found = SometimesOther(parties, state)
        parties.clear()
        state.people.append("bob")
        self.assertEqual([found.parties, found.state.people], [["box", "box"], ["ann"]])
        bent = SometimesOther(("box", "box"), State(["ann"], ["box"]))
        bent.parties = ("box", "box")
        self.assertTrue(found == bent)
        self.assertFalse(found == SometimesOther(["box", "cup"], found.state) or found == SometimesOther(["box", "box"], state) or found == AlwaysSame(1))

    def test_against_all_words(self):
        told = set()
        for one, other in drawn_templates(341, 250):
            found = judge_templates(one, other)
            fixed = sorted(set(one.fixed()) | set(other.fixed()))
            words = fixed + ["zz" + letter for letter in "abc"[:len(one.names) + 1]]
            self.assertEqual(bool(found), same_by_plans(one, other, words))
            self.assertTrue(found.shows(one, other))
            if found:
                self.assertEqual(found.number, len(plain_ways(one.names, fixed)))
            told.add((bool(found), len(one.names)))
        self.assertEqual(told, set(itertools.product((True, False), range(3))))

    def test_the_bounds_are_quick(self):
        names = list("vwxyz")
        plan = [(2, "a", "v"), (2, "b", "w"), (2, "c", "x"), (3, "a", "y"), (0, "a", "b", "z", READ)] * 4
        one, other = Template(POLICY, names, plan), Template(POLICY, names, plan[:5])
        start = time.perf_counter()
        found = judge_templates(one, other)
        self.assertTrue(found.shows(one, other))
        self.assertEqual(found, AlwaysSame(1915))
        self.assertLess(time.perf_counter() - start, 10)


if __name__ == "__main__":
    unittest.main()
