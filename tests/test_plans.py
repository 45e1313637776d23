import random
import time
import unittest

from handedkeys.deeds import can, done
from handedkeys.errors import BadDeed, BadNumber, BadPolicy, BadRight, BadState, NeverDone, TooLarge
from handedkeys.plans import (Effect, OtherPlans, SamePlans, effect, judge_plans, least_state, leaned, may_exchange,
                              most_times, sure_to_come)
from handedkeys.policies import Policy
from handedkeys.states import State
from tests.tools import ALL, plain_rounds, random_policy, refused

POLICY = Policy([("fetch", "take", [("read", "read")]), ("make", ["take", "read"]), ("raise", "own", "read"),
                 ("meet", "own", "read", "lend"), ("hand", "own", [("read", "read")])])
READ = ("read", "read")
NAMES = ["ann", "bob", "box", "cup"]


def drawn_plan(rnd, policy, words, many):
    """A plan of so many deeds, most of which fit what those ahead leave, over few names."""
    plan = []
    held = []
    for _ in range(many):
        number = rnd.randrange(-1, len(policy))
        one, word, other = rnd.choice(held) if held and rnd.random() < 0.6 else (rnd.choice(NAMES), rnd.choice(words), rnd.choice(NAMES))
        if number < 0:
            plan.append(("drop", one, word, other))
        elif policy[number][0] == "make":
            plan.append((number, rnd.choice(NAMES[:2]), rnd.choice(["new", "tin"] + NAMES[2:])))
        elif policy[number][0] in ("raise", "meet"):
            plan.append((number, one, other))
        else:
            plan.append((number, one, other, rnd.choice(NAMES + ["new"]), rnd.choice(policy[number][2])))
        held += [(one, told, rnd.choice([other, "new"])) for told in words]
    return plan


def drawn_plans(seed, many):
    """Generate policies with a make and plans of up to six deeds."""
    rnd = random.Random(seed)
    for number in range(many):
        policy = ALL if number % 3 == 0 else random_policy(rnd, list("abc"), rnd.randint(1, 3), True)
        yield rnd, policy, drawn_plan(rnd, policy, "abc", rnd.randint(0, 6))


def names_of(plan):
    """The names of parties in a plan."""
    return sorted({name for deed in plan for name in ((deed[1], deed[3]) if deed[0] == "drop" else deed[1:4])})


def full_state(policy, plan, words):
    """The state that allows a plan, if any does: all but what the plan makes are people with all rights."""
    made = [deed[2] for deed in plan if deed[0] != "drop" and policy[deed[0]][0] == "make"]
    people = [name for name in names_of(plan) if name not in made] or ["zoe"]
    return State(people, [], [(one, word, other) for one in people for word in words for other in people])


def behind_by_deeds(policy, plan, state):
    """The state behind a plan, its deeds done one by one; None if one cannot be done."""
    for deed in plan:
        if not can(policy, state, deed):
            return None
        state = done(policy, state, [deed])
    return state


def drawn_states(rnd, policy, plan, words, many):
    """Generate states of the names of a plan, some of which allow it."""
    for _ in range(many):
        names = sorted(set(names_of(plan) + ["zoe"]))
        there = [name for name in names if rnd.random() < (0.3 if name == "new" else 0.9)] or ["zoe"]
        people = [name for name in there if rnd.random() < 0.8]
        share = rnd.choice([0.2, 0.9, 1])
        yield State(people, [name for name in there if name not in people],
                    [(one, word, other) for one in there for word in words for other in there if rnd.random() < share])


class EffectTest(unittest.TestCase):

    def told(self, plan, policy=POLICY):
        found = effect(policy, plan)
        return [found.people, found.needs, found.sure, found.gone, found.made]

    def test_needed_and_brought(self):
        own, read, lend = (("ann", word, "box") for word in ("own", "read", "lend"))
        self.assertEqual(self.told([(2, "ann", "box")]), [["ann"], [own], [own, read], [], []])
        self.assertEqual(self.told([(2, "ann", "box"), (3, "ann", "box")]), [["ann"], [own], [lend, own, read], [], []])
        self.assertEqual(self.told([(3, "ann", "box"), (2, "ann", "box")]), [["ann"], [own, read], [lend, own, read], [], []])
        self.assertEqual(self.told(((4, "ann", "bob", "box", READ),)), [["ann"], [("ann", "own", "bob"), read], [("ann", "own", "bob"), read, ("bob", "read", "box")], [], []])

    def test_dropped_and_brought_again(self):
        own, read = ("ann", "own", "box"), ("ann", "read", "box")
        self.assertEqual(self.told([("drop", "ann", "read", "box"), (2, "ann", "box")]), [["ann"], [own, read], [own, read], [], []])
        self.assertEqual(self.told([(2, "ann", "box"), ("drop", "ann", "read", "box")]), [["ann"], [own], [own], [read], []])
        self.assertEqual(self.told([("drop", "ann", "own", "box")]), [["ann"], [own], [], [own], []])
        self.assertEqual(self.told([(2, "ann", "box"), ("drop", "ann", "read", "box"), (2, "ann", "box"), ("drop", "ann", "read", "box")])[3], [read])

    def test_made_things(self):
        taken = ("ann", "take", "box")
        self.assertEqual(self.told([(1, "ann", "box")]), [["ann"], [], [("ann", "read", "box"), taken], [], ["box"]])
        self.assertEqual(self.told([(1, "ann", "box"), ("drop", "ann", "take", "box")]), [["ann"], [], [("ann", "read", "box")], [], ["box"]])
        self.assertEqual(self.told([(1, "bob", "tin"), (1, "ann", "box"), ("drop", "ann", "take", "box"), ("drop", "ann", "read", "box")]),
                         [["ann", "bob"], [], [("bob", "read", "tin"), ("bob", "take", "tin")], [], ["box", "tin"]])
        self.assertEqual(self.told([(1, "ann", "box"), (4, "ann", "bob", "box", READ)])[1:3],
                         [[("ann", "own", "bob")], [("ann", "own", "bob"), ("ann", "read", "box"), taken, ("bob", "read", "box")]])

    def test_the_empty_plan(self):
        for plan in ([], ()):
            self.assertEqual(self.told(plan), [[], [], [], [], []])
            self.assertTrue(least_state(POLICY, plan) == State([], ["a"]))
        self.assertEqual(effect(POLICY, []).parties(), [])
        state = State(["ann"], ["box"], [("ann", "own", "box")])
        self.assertTrue(effect(Policy([]), []).allows(state) and effect(POLICY, []).behind(state) == state)

    def test_each_reason_for_none(self):
        for plan in ([(1, "ann", "bob"), (1, "bob", "box")], [(1, "ann", "bob"), (2, "bob", "ann")],
                     [(1, "ann", "bob"), ("drop", "bob", "read", "ann")],
                     [("drop", "ann", "own", "box"), (2, "ann", "box")], [("drop", "ann", "own", "box"), ("drop", "ann", "own", "box")],
                     [(2, "ann", "box"), ("drop", "ann", "read", "box"), (3, "ann", "box")],
                     [(1, "ann", "ann")], [(2, "ann", "box"), (1, "ann", "box")], [(2, "ann", "box"), (1, "bob", "ann")],
                     [(0, "ann", "bob", "box", READ), (1, "ann", "box")], [(1, "ann", "box"), (1, "bob", "box")],
                     [(1, "bob", "tin"), (1, "ann", "bob")],
                     [(1, "ann", "box"), (2, "ann", "box")], [(1, "ann", "box"), ("drop", "ann", "own", "box")],
                     [(1, "ann", "box"), (0, "bob", "box", "cup", READ)], [(1, "ann", "box"), (0, "ann", "box", "cup", READ)],
                     [(1, "ann", "box"), ("drop", "ann", "take", "box"), (0, "ann", "box", "box", READ)],
                     [(1, "ann", "box"), (0, "bob", "ann", "cup", READ), ("drop", "bob", "read", "box")]):
            self.assertIsNone(effect(POLICY, plan), plan)
            self.assertIsNone(least_state(POLICY, plan), plan)
            self.assertEqual(most_times(POLICY, plan), 0)

    def test_a_dropped_right_of_a_made_thing_may_be_brought_again(self):
        plan = [(1, "ann", "box"), (4, "ann", "bob", "box", READ), ("drop", "ann", "read", "box")]
        self.assertEqual(self.told(plan)[3], [])
        self.assertIsNone(effect(POLICY, plan + [(4, "ann", "bob", "box", READ)]))
        back = plan + [(0, "ann", "bob", "box", READ), (4, "ann", "bob", "box", READ)]
        self.assertEqual(self.told(back)[2], [("ann", "own", "bob"), ("ann", "read", "box"), ("ann", "take", "bob"), ("ann", "take", "box"), ("bob", "read", "box")])

    def test_lists_ascend_whatever_order_is_given(self):
        right, more = ("ann", "own", "box"), ("ann", "own", "bob")
        found = Effect(["bob", "ann", "bob"], (right, more, right), [right, right, more], (more, more), ("tin", "cup", "tin"))
        self.assertEqual([found.people, found.needs, found.sure, found.gone, found.made],
                         [["ann", "bob"], [more, right], [more, right], [more], ["cup", "tin"]])
        self.assertEqual([type(part) for part in (found.people, found.needs, found.sure, found.gone, found.made)], [list] * 5)
        same = Effect(("ann", "bob"), [more, right], (right, more), [more], ["cup", "tin"])
        self.assertTrue(found == same and not found != same)
        for other in (Effect(["ann"], [more, right], [right, more], [more], ["cup", "tin"]), Effect(["ann", "bob"], [right], [right, more], [more], ["cup", "tin"]),
                      Effect(["ann", "bob"], [more, right], [right], [more], ["cup", "tin"]), Effect(["ann", "bob"], [more, right], [right, more], [], ["cup", "tin"]),
                      Effect(["ann", "bob"], [more, right], [right, more], [more], ["cup"]), None, [["ann", "bob"]], SamePlans(same)):
            self.assertFalse(found == other)

    def test_what_is_given_is_copied_and_what_is_returned_new(self):
        people, needs = ["bob", "ann"], [("bob", "own", "box")]
        found = Effect(people, needs, needs, [], ["tin"])
        people.clear()
        needs.clear()
        self.assertEqual([found.people, found.needs, found.sure], [["ann", "bob"], [("bob", "own", "box")]] + [[("bob", "own", "box")]])
        found.parties().clear()
        found.least().people.clear()
        self.assertEqual([found.parties(), found.least().people], [["ann", "bob", "box"], ["ann", "bob"]])
        state = State(["ann", "bob"], ["box"], [("bob", "own", "box")])
        found.behind(state).rights.clear()
        self.assertTrue(state == State(["ann", "bob"], ["box"], [("bob", "own", "box")]))
        plan = [(2, "ann", "box")]
        effect(POLICY, plan).needs.clear()
        self.assertEqual([plan, effect(POLICY, plan).needs], [[(2, "ann", "box")], [("ann", "own", "box")]])

    def test_allows_and_behind(self):
        found = effect(POLICY, [(1, "ann", "tin"), (2, "ann", "box"), ("drop", "ann", "own", "box")])
        right = ("ann", "own", "box")
        state = State(["ann"], ["box"], [right, ("box", "see", "ann")])
        self.assertTrue(found.behind(state) == State(["ann"], ["box", "tin"], [("ann", "read", "box"), ("ann", "read", "tin"), ("ann", "take", "tin"), ("box", "see", "ann")]))
        for other in (State(["box"], ["ann"], [right]), State(["ann"], ["box"]), State(["ann"], ["box", "tin"], [right]), State(["ann", "tin"], ["box"], [right]), State([], ["box"])):
            self.assertIs(found.allows(other), False)
            refused(self, NeverDone, found.behind, other)
        self.assertIs(found.allows(State(["ann", "box", "bob"], ["cup"], [right])), True)
        self.assertIs(found.allows(State(["ann"], ["box"] + list("abcdefghijklm"), [right])), True)
        for value in (None, [], "ann", [right]):
            self.assertIsNone(refused(self, BadState, found.allows, value).part)
            self.assertIsNone(refused(self, BadState, found.behind, value).part)

    def test_least(self):
        found = Effect(["ann", "bob"], [("ann", "own", "box"), ("box", "see", "cup")], [], [], ["tin"])
        self.assertEqual(found.parties(), ["ann", "bob", "box", "cup"])
        self.assertTrue(found.least() == State(["ann", "bob"], ["box", "cup"], [("ann", "own", "box"), ("box", "see", "cup")]))
        self.assertTrue(Effect([], [], [], [], []).least() == State([], ["a"]))

    def test_against_doing_the_deeds_one_by_one(self):
        seen = set()
        for rnd, policy, plan in drawn_plans(301, 500):
            found = effect(policy, plan)
            full = behind_by_deeds(policy, plan, full_state(policy, plan, "abc"))
            self.assertEqual(found is None, full is None, (policy.rules, plan))
            states = list(drawn_states(rnd, policy, plan, "abc", 6)) + [full_state(policy, plan, "abc")]
            if found is not None:
                states.append(found.least())
                self.assertTrue(least_state(policy, plan) == found.least())
                for right in found.needs:
                    self.assertIsNone(behind_by_deeds(policy, plan, found.least() - [right]))
            for state in states:
                later = behind_by_deeds(policy, plan, state)
                seen.add((found is None, later is None))
                if found is None:
                    self.assertIsNone(later)
                    continue
                self.assertEqual(found.allows(state), later is not None, (policy.rules, plan, state.rights))
                if later is None:
                    refused(self, NeverDone, found.behind, state)
                else:
                    self.assertTrue(found.behind(state) == later, (policy.rules, plan, state.rights))
        self.assertEqual(seen, {(True, True), (False, True), (False, False)})


class JudgePlansTest(unittest.TestCase):

    def test_same(self):
        one = [(2, "ann", "box"), (2, "bob", "box")]
        for other in (one[::-1], tuple(one), one + one, one + [("drop", "ann", "own", "box"), (2, "bob", "box")][1:]):
            found = judge_plans(POLICY, one, other)
            self.assertIs(bool(found), True)
            self.assertTrue(found == SamePlans(effect(POLICY, one)) and found.shows(POLICY, one, other))

    def test_no_state_allows_either(self):
        one, other = [(1, "ann", "ann")], [(1, "ann", "box"), (1, "ann", "box")]
        found = judge_plans(POLICY, one, other)
        self.assertTrue(found and found.effect is None and found.shows(POLICY, one, other))
        self.assertFalse(found.shows(POLICY, one, []) or found.shows(POLICY, [], other) or found.shows(POLICY, [], []))
        self.assertFalse(SamePlans(effect(POLICY, [])).shows(POLICY, one, other))

    def test_only_one_is_allowed(self):
        one, other = [(1, "ann", "ann")], [(1, "ann", "box")]
        for first, second in ((one, other), (other, one)):
            found = judge_plans(POLICY, first, second)
            self.assertIs(bool(found), False)
            self.assertTrue(found.shows(POLICY, first, second))
            self.assertFalse(found.shows(POLICY, one, one) or found.shows(POLICY, other, other))

    def test_each_difference_is_shown(self):
        own = ("ann", "own", "box")
        for one, other in (([(2, "ann", "box")], [(2, "bob", "box")]), ([], [(1, "ann", "box")]), ([(1, "ann", "box")], [(1, "ann", "cup")]),
                           ([(1, "ann", "box")], [(1, "ann", "box"), (1, "ann", "cup")]),
                           ([(2, "ann", "box")], [(3, "ann", "box")]), ([(2, "ann", "box")], [(2, "ann", "box"), ("drop", "ann", "read", "box")]),
                           ([("drop", "ann", "own", "box"), ("drop", "ann", "read", "cup")], [("drop", "ann", "own", "box")]),
                           ([(2, "ann", "box"), ("drop", "ann", "own", "box")], [(2, "ann", "box"), ("drop", "ann", "own", "box"), ("drop", "ann", "read", "box")]),
                           ([(1, "ann", "box"), ("drop", "ann", "read", "box")], [(1, "ann", "box")])):
            for first, second in ((one, other), (other, one)):
                found = judge_plans(POLICY, first, second)
                self.assertFalse(found, (one, other))
                self.assertTrue(found.shows(POLICY, first, second) and found.shows(POLICY, second, first))
                self.assertNotEqual(behind_by_deeds(POLICY, first, found.state), behind_by_deeds(POLICY, second, found.state))
        same = [("drop", "ann", "own", "box"), (2, "ann", "cup")]
        found = judge_plans(POLICY, same, same[::-1])
        self.assertTrue(found)
        gone = [(2, "ann", "box"), ("drop", "ann", "read", "box"), ("drop", "ann", "own", "box")]
        other = [("drop", "ann", "own", "box")]
        found = judge_plans(POLICY, gone, other)
        self.assertIn(("ann", "read", "box"), found.state)
        self.assertFalse(OtherPlans(State(["ann"], ["box"], [own])).shows(POLICY, gone, other))
        self.assertTrue(OtherPlans(State(["ann"], ["box"], [own, ("ann", "read", "box")])).shows(POLICY, gone, other))

    def test_bent_evidence(self):
        one, other = [(2, "ann", "box"), ("drop", "ann", "own", "box"), (1, "ann", "tin")], [(2, "ann", "box"), (1, "ann", "tin"), ("drop", "ann", "own", "box")]
        for name in ("people", "needs", "sure", "gone", "made"):
            for bend in (lambda part: part.clear(), lambda part: part.append(part[0]), lambda part: part.append("zoe"), lambda part: part.insert(0, ("ann", "a", "box"))):
                found = judge_plans(POLICY, one, other)
                self.assertTrue(found.shows(POLICY, one, other))
                setattr(found.effect, name, tuple(getattr(found.effect, name)))
                self.assertTrue(found.shows(POLICY, one, other))
                setattr(found.effect, name, list(getattr(found.effect, name)))
                bend(getattr(found.effect, name))
                self.assertIs(found.shows(POLICY, one, other), False)
        found = judge_plans(POLICY, one, other)
        found.effect = None
        self.assertIs(found.shows(POLICY, one, other), False)
        found = judge_plans(POLICY, one, one[:2])
        self.assertFalse(found)
        found.state = State(["bob"], [])
        self.assertIs(found.shows(POLICY, one, one[:2]), False)

    def test_evidence_is_equal_and_copied(self):
        found = effect(POLICY, [(2, "ann", "box")])
        same = SamePlans(found)
        found.needs.clear()
        self.assertEqual(same.effect.needs, [("ann", "own", "box")])
        self.assertTrue(same == SamePlans(effect(POLICY, ((2, "ann", "box"),))) and SamePlans(None) == SamePlans(None))
        state = State(["ann"], [])
        other = OtherPlans(state)
        state.people.append("bob")
        self.assertEqual(other.state.people, ["ann"])
        self.assertTrue(other == OtherPlans(State(["ann"], [])) and not other == OtherPlans(State(["bob"], [])))
        self.assertFalse(same == other or same == SamePlans(None) or same == same.effect or other == State(["ann"], []))

    def test_against_many_states(self):
        told = {True: 0, False: 0}
        for rnd, policy, plan in drawn_plans(302, 400):
            other = list(plan)
            if rnd.random() < 0.5:
                rnd.shuffle(other)
            else:
                other = other + drawn_plan(rnd, policy, "abc", 1) if rnd.random() < 0.5 else other[1:]
            found = judge_plans(policy, plan, other)
            told[bool(found)] += 1
            self.assertTrue(found.shows(policy, plan, other), (policy.rules, plan, other))
            if found:
                for state in list(drawn_states(rnd, policy, plan + other, "abc", 5)) + [full_state(policy, plan, "abc")]:
                    self.assertEqual(behind_by_deeds(policy, plan, state), behind_by_deeds(policy, other, state))
            else:
                self.assertNotEqual(behind_by_deeds(policy, plan, found.state), behind_by_deeds(policy, other, found.state))
        self.assertGreater(min(told.values()), 60)


class ChangesTest(unittest.TestCase):

    def test_may_exchange(self):
        plan = [(2, "ann", "box"), (3, "ann", "box"), (2, "bob", "cup"), ("drop", "ann", "own", "box")]
        self.assertEqual([may_exchange(POLICY, plan, place) for place in range(3)], [False, True, True])
        self.assertIs(may_exchange(POLICY, plan[:1] + plan[3:], 0), False)
        self.assertIs(may_exchange(POLICY, [(1, "ann", "ann"), (1, "ann", "box")], 0), True)
        for place in (3, 4, -1, True, False, None, "0", 1.0):
            refused(self, BadNumber, may_exchange, POLICY, plan, place)
        for short in ([], plan[:1]):
            refused(self, BadNumber, may_exchange, POLICY, short, 0)
        self.assertEqual(len(plan), 4)

    def test_leaned(self):
        one, two = (2, "ann", "box"), (2, "bob", "box")
        self.assertEqual(leaned(POLICY, [one, two, one]), [one, two])
        self.assertEqual(leaned(POLICY, (one, one, one)), [one])
        self.assertEqual(leaned(POLICY, [one, ("drop", "ann", "read", "box"), one]), [one])
        drop = ("drop", "ann", "read", "box")
        self.assertEqual(leaned(POLICY, [drop, one, drop]), [drop, one, drop])
        self.assertEqual(leaned(POLICY, [drop, one, drop, one]), [drop, one])
        self.assertEqual(leaned(POLICY, []), [])
        self.assertEqual(leaned(POLICY, [one, (1, "ann", "ann"), one]), [(1, "ann", "ann")])
        plan = [one, one]
        leaned(POLICY, plan).clear()
        self.assertEqual(plan, [one, one])

    def test_leaned_and_exchanged_against_judging(self):
        sizes = set()
        for rnd, policy, plan in drawn_plans(303, 150):
            left = list(plan)
            for place in reversed(range(len(plan))):
                if judge_plans(policy, plan, left[:place] + left[place + 1:]):
                    left = left[:place] + left[place + 1:]
            self.assertEqual(leaned(policy, plan), left)
            sizes.add(len(plan) - len(left))
            for place in range(len(plan) - 1):
                turned = plan[:place] + [plan[place + 1], plan[place]] + plan[place + 2:]
                self.assertEqual(may_exchange(policy, plan, place), bool(judge_plans(policy, plan, turned)))
        self.assertTrue({0, 1, 2} <= sizes)

    def test_most_times(self):
        one, drop = (2, "ann", "box"), ("drop", "ann", "own", "box")
        for plan, told in (([], None), ([one], None), ([drop], 1), ([one, drop], 1), ([(1, "ann", "tin")], 1), ([drop, drop], 0), ([(1, "ann", "ann")], 0),
                           ([one, ("drop", "ann", "read", "box")], None), ([("drop", "ann", "read", "box"), one], None), (((1, "ann", "tin"), one), 1)):
            self.assertEqual(most_times(POLICY, plan), told, plan)

    def test_most_times_against_doing_it_again(self):
        told = set()
        for _, policy, plan in drawn_plans(304, 250):
            many = [k for k in range(5) if k == 0 or behind_by_deeds(policy, plan * k, full_state(policy, plan, "abc")) is not None][-1]
            self.assertEqual(most_times(policy, plan), None if many == 4 else many)
            told.add(many)
        self.assertEqual(told, {0, 1, 4})


class SureTest(unittest.TestCase):

    def test_rights_that_are_there_that_come_and_that_do_not(self):
        plan = [(2, "ann", "box"), (1, "ann", "tin"), ("drop", "ann", "take", "tin")]
        for right, told in ((("ann", "read", "box"), True), (("ann", "own", "box"), True), (("ann", "lend", "box"), True), (("ann", "read", "tin"), True),
                            (("ann", "take", "tin"), False), (("ann", "take", "box"), False), (("tin", "read", "box"), False), (("ann", "zeal", "ann"), False)):
            self.assertIs(sure_to_come(POLICY, plan, right), told, right)
        self.assertIs(sure_to_come(POLICY, [("drop", "ann", "own", "box")], ("ann", "read", "box")), False)
        self.assertIs(sure_to_come(POLICY, [], ("a", "own", "a")), False)
        over = Policy([("make", ["put"]), ("hand", "put", [("own", "kept")]), ("fetch", "put", [("kept", "lent")])])
        self.assertIs(sure_to_come(over, [(0, "ann", "tin"), ("drop", "ann", "put", "tin"), ("drop", "bob", "own", "box")], ("bob", "lent", "box")), False)
        self.assertIs(sure_to_come(over, [(0, "ann", "tin"), (1, "bob", "cup", "box", ("own", "kept"))], ("bob", "lent", "box")), True)
        self.assertIs(sure_to_come(over, [(0, "bob", "tin"), (1, "bob", "cup", "box", ("own", "kept"))], ("tin", "kept", "box")), True)

    def test_refusals(self):
        refused(self, NeverDone, sure_to_come, POLICY, [(1, "ann", "ann")], "bad")
        plan = [(2, "ann", "box"), (1, "ann", "tin")]
        for right in (None, "bad", ("ann", "own", "cup"), ["ann", "own", "box"], ("ann", "Own", "box"), ("ann", "own"), ("ann", 1, "box")):
            refused(self, BadRight, sure_to_come, POLICY, plan, right)
        refused(self, BadRight, sure_to_come, POLICY, [], ("ann", "own", "ann"))
        twelve = [(1, "ann", "t" + letter) for letter in "abcdefghijk"]
        self.assertIs(sure_to_come(POLICY, twelve, ("ann", "read", "ta")), True)
        thirteen = twelve + [(1, "ann", "tl")]
        refused(self, TooLarge, sure_to_come, POLICY, thirteen, ("ann", "read", "ta"))
        refused(self, BadRight, sure_to_come, POLICY, thirteen, ("ann", "read", "box"))
        refused(self, TooLarge, sure_to_come, POLICY, [(2, "ann", name) for name in "abcdefghijkl"], ("ann", "read", "a"))

    def test_in_all_states_that_allow_it(self):
        told = set()
        for rnd, policy, plan in drawn_plans(305, 200):
            found = effect(policy, plan)
            if found is None:
                continue
            least = found.behind(found.least())
            names = least.parties()
            for right in [(rnd.choice(names), rnd.choice("abc"), rnd.choice(names)) for _ in range(4)]:
                sure = sure_to_come(policy, plan, right)
                told.add(sure)
                self.assertEqual(sure, right in plain_rounds(policy, least))
                states = [state for state in drawn_states(rnd, policy, plan, "abc", 3) if found.allows(state)]
                self.assertTrue(all(right in plain_rounds(policy, found.behind(state)) for state in states if sure))
        self.assertEqual(told, {True, False})


class RefusalsTest(unittest.TestCase):

    def test_wrong_plans(self):
        good = [(2, "ann", "box")]
        wrong = ((None, None), ("bad", None), ({0: good[0]}, None), ([None], 0), (good + ["bad"], 1), (good + [good[0], list(good[0])], 2),
                 (((5, "ann", "box"),), 0), ([(True, "ann", "box")], 0), ([(2, "ann")], 0), ([(2, "ann", "box", "cup")], 0), ([(2, "Ann", "box")], 0),
                 ([(0, "ann", "bob", "box", ("read", "own"))], 0), ([(0, "ann", "bob", "box", ["read", "read"])], 0), ([(0, "ann", "bob", "box")], 0),
                 ([("drop", "ann", "own")], 0), ([("drop", "ann", "own", 1)], 0), (good + [("Drop", "ann", "own", "box")], 1), ([(-1, "ann", "box")], 0), ([(1, "ann", "ninechars")], 0))
        for plan, place in wrong:
            for call in (effect, least_state, leaned, most_times):
                self.assertEqual(refused(self, BadDeed, call, POLICY, plan).place, place)
            self.assertEqual(refused(self, BadDeed, may_exchange, POLICY, plan, "bad").place, place)
            self.assertEqual(refused(self, BadDeed, sure_to_come, POLICY, plan, "bad").place, place)
            for call in (judge_plans, SamePlans(None).shows, OtherPlans(None).shows):
                self.assertEqual(refused(self, BadDeed, call, POLICY, plan, "bad").place, place)
                self.assertEqual(refused(self, BadDeed, call, POLICY, good, plan).place, place)

    def test_policies_come_first(self):
        for policy in (None, POLICY.rules, "bad"):
            for call, rest in ((effect, ["bad"]), (least_state, ["bad"]), (leaned, ["bad"]), (most_times, ["bad"]), (judge_plans, ["bad", "bad"]),
                               (SamePlans(None).shows, ["bad", "bad"]), (OtherPlans(None).shows, ["bad", "bad"]), (may_exchange, ["bad", "bad"]), (sure_to_come, ["bad", "bad"])):
                self.assertIsNone(refused(self, BadPolicy, call, policy, *rest).number)

    def test_long_plans_are_quick(self):
        rnd = random.Random(306)
        names = ["p" + letter for letter in "abcdefgh"]
        plan = [rnd.choice([(2, rnd.choice(names), rnd.choice(names)), (3, rnd.choice(names), rnd.choice(names))]) for _ in range(200)]
        start = time.perf_counter()
        self.assertLess(len(leaned(POLICY, plan)), 129)
        self.assertTrue(judge_plans(POLICY, plan, leaned(POLICY, plan)))
        self.assertLess(time.perf_counter() - start, 8)


if __name__ == "__main__":
    unittest.main()
