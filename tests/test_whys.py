import random
import time
import unittest

from handedkeys.closing import all_that_come
from handedkeys.errors import BadParty, BadPolicy, BadRight, BadState, NeverComes, TooLarge
from handedkeys.policies import Policy
from handedkeys.rules import asked_for, brought_by
from handedkeys.states import State
from handedkeys.whys import Why, by_them_alone, lasting, why
from tests.tools import BOTH, FETCH, all_rights, between, busy_cases, cases, plain_deeds, plain_rounds, refused

LETTERS = "abcdefghijklm"
STATE = State(["ann", "bob"], ["box"], [("bob", "use", "box"), ("ann", "take", "bob"), ("bob", "own", "ann")])
GOAL = ("ann", "use", "box")
MAKING = Policy([("make", ["give", "take"]), ("hand", "give", [("use", "use")]), ("fetch", "take", [("take", "take"), ("use", "use")])])
MADE = State(["ann", "bob"], ["box"], [("ann", "use", "box"), ("bob", "take", "ann")])
MADE_STEPS = [((1, "ann", "ann+", "box", ("use", "use")), ("ann+", "use", "box")),
              ((2, "bob", "ann", "ann+", ("take", "take")), ("bob", "take", "ann+")),
              ((2, "bob", "ann+", "box", ("use", "use")), ("bob", "use", "box"))]


def plain_shows(policy, state, right, steps):
    """Whether steps are as the document tells, by going through all deeds at each of them."""
    helpers = [p + "+" for p in state.people if policy.made() is not None]
    there = set(state.rights) | {(p, word, p + "+") for p in state.people for word in policy.made() or ()}
    if not steps:
        return right in there
    for number, (deed, brought) in enumerate(steps):
        if (deed, brought) not in plain_deeds(policy, state.people, state.parties() + helpers, there) or brought in there:
            return False
        later = [asked for other, _ in steps[number + 1:] for asked in asked_for(policy.rules, other)]
        if brought not in later and number < len(steps) - 1:
            return False
        there.add(brought)
    return steps[-1][1] == right


class WhyTest(unittest.TestCase):

    def test_a_right_that_is_there_has_no_steps(self):
        for right in STATE:
            found = why(FETCH, STATE, right)
            self.assertEqual([found.steps, found.brings(), found.actors(), found.makers(), len(found)], [[], [], [], [], 0])
            self.assertTrue(found and found.shows(FETCH, STATE, right))
        self.assertFalse(Why([((0, "ann", "bob", "box", ("use", "use")), GOAL)]).shows(FETCH, STATE, ("bob", "use", "box")))
        self.assertFalse(Why([]).shows(FETCH, STATE, GOAL))

    def test_steps(self):
        found = why(FETCH, STATE, GOAL)
        self.assertEqual(found.steps, [((0, "ann", "bob", "box", ("use", "use")), GOAL)])
        self.assertEqual([found.brings(), found.actors(), found.makers(), len(found), bool(found)], [[GOAL], ["ann"], [], 1, True])

    def test_steps_over_helpers(self):
        right = ("bob", "use", "box")
        found = Why(MADE_STEPS)
        self.assertTrue(found.shows(MAKING, MADE, right))
        self.assertEqual([found.actors(), found.makers(), len(found)], [["ann", "bob"], ["ann"], 3])
        self.assertEqual(found.brings(), [("ann+", "use", "box"), ("bob", "take", "ann+"), right])
        unmade = why(MAKING, MADE + [("bob", "take", "bob"), ("bob", "give", "bob"), ("bob", "use", "bob")], ("bob", "use", "bob"))
        self.assertEqual([unmade.steps, unmade.makers()], [[], []])

    def test_helpers_that_only_stand_in_rights(self):
        policy = Policy([("make", ["give"]), ("hand", "give", [("give", "take")]), ("fetch", "take", [("use", "use")]),
                         ("hand", "give", [("use", "use")])])
        state = State(["ann", "bob"], ["box"], [("ann", "give", "bob"), ("ann", "use", "box")])
        given = ((1, "ann", "bob", "ann+", ("give", "take")), ("bob", "take", "ann+"))
        put = ((3, "ann", "ann+", "box", ("use", "use")), ("ann+", "use", "box"))
        fetched = ((2, "bob", "ann+", "bob", ("use", "use")), ("bob", "use", "bob"))
        self.assertTrue(Why([given, put, ((2, "bob", "ann+", "box", ("use", "use")), ("bob", "use", "box"))]).shows(
            policy, state, ("bob", "use", "box")))
        self.assertEqual([Why([one]).makers() for one in (given, put, fetched)], [["ann"]] * 3)

    def test_two_makers(self):
        steps = MADE_STEPS + [((1, "bob", "bob+", "ann+", ("use", "use")), ("bob+", "use", "ann+"))]
        self.assertEqual([Why(steps).makers(), Why(steps[:2]).makers(), Why([]).makers()], [["ann", "bob"], ["ann"], []])
        many = [((0, name, name + "+"), (name, "own", name + "+")) for name in ("hal", "eve", "bob", "gus", "cat", "ann", "dan", "fay", "eve")]
        names = ["ann", "bob", "cat", "dan", "eve", "fay", "gus", "hal"]
        self.assertEqual([Why(many).makers(), Why(many).actors()], [names, names])

    def test_true_evidence(self):
        lengths, with_helpers = set(), 0
        for policy, state in list(cases(131, 90, rights=(1, 8), rules=(2, 4))) + list(busy_cases(132, 30)):
            come = plain_rounds(policy, state)
            for right in all_rights(state, "abc"):
                if right not in come:
                    refused(self, NeverComes, why, policy, state, right)
                    continue
                found = why(policy, state, right)
                self.assertTrue(found.shows(policy, state, right), (policy.rules, state.rights, right))
                self.assertTrue(plain_shows(policy, state, right, found.steps), (policy.rules, state.rights, right))
                self.assertEqual(found.brings(), [brought for _, brought in found.steps])
                self.assertEqual(found.actors(), sorted({deed[1] for deed, _ in found.steps}))
                names = {part for deed, _ in found.steps for part in deed[1:4]}
                self.assertEqual(found.makers(), sorted(name[:-1] for name in names if name.endswith("+")))
                lengths.add(len(found))
                with_helpers += len(found.makers()) > 0
        self.assertTrue({0, 1, 2, 3, 4} <= lengths and with_helpers > 20, (lengths, with_helpers))

    def test_changed_steps(self):
        right = ("bob", "use", "box")
        first, second, third = MADE_STEPS
        other = ((1, "bob", "bob+", "box", ("use", "use")), ("bob+", "use", "box"))
        unused = ((2, "ann", "ann+", "box", ("use", "use")), GOAL)
        for steps, holds in (([second, first, third], True), ([first, third, second], False), ([first, second], False),
                             ([first, third], False), ([second, third], False), ([third], False), ([], False),
                             ([first, second, third, third], False), ([first, second, third, other], False),
                             ([first, first, second, third], False), ([other, first, second, third], False), ([unused, first, second, third], False),
                             ([list(first), [list(second[0]), list(second[1])], third], True), ((first, second, third), True),
                             ([(first[0], ("ann+", "take", "box")), second, third], False),
                             ([first, second, (third[0], ("ann", "use", "box"))], False),
                             ([first, second, ((2, "bob", "ann+", "box", ("take", "use")), right)], False),
                             ([first, second, ((1, "bob", "ann+", "box", ("use", "use")), right)], False),
                             ([first, second, ((2, "ann", "ann+", "box", ("use", "use")), right)], False),
                             ([first, second, ((2, "ann+", "ann+", "box", ("use", "use")), right)], False),
                             ([first, second, ((2, "bob", "cat+", "box", ("use", "use")), right)], False),
                             ([first, second, ((3, "bob", "ann+", "box", ("use", "use")), right)], False),
                             ([first, second, ((True, "bob", "ann+", "box", ("use", "use")), right)], False),
                             ([first, second, ((2, "bob", "ann+"), right)], False),
                             ([((0, "ann", "ann+"), ("ann", "give", "ann+")), first, second, third], False),
                             ([((0, "ann", "new"), ("ann", "give", "new")), first, second, third], False),
                             ([(("drop", "ann", "use", "box"), ("ann", "use", "box")), first, second, third], False)):
            changed = why(MAKING, MADE, right)
            changed.steps = steps
            self.assertIs(changed.shows(MAKING, MADE, right), holds, steps)
        self.assertFalse(Why(MADE_STEPS).shows(MAKING, MADE, ("ann", "take", "box")))
        self.assertFalse(Why(MADE_STEPS).shows(MAKING, MADE + [right], right))
        self.assertFalse(Why(MADE_STEPS).shows(MAKING, MADE - MADE.rights[:1], right))

    def test_helpers_stand_only_beside_a_make(self):
        policy = Policy([("raise", "own", "use"), ("hand", "give", [("use", "use")]), ("fetch", "take", [("take", "take"), ("use", "use")])])
        self.assertFalse(Why(MADE_STEPS).shows(policy, MADE, ("bob", "use", "box")))
        loop = ((0, "ann", "ann"), ("ann", "use", "ann"))
        self.assertTrue(Why([loop]).shows(policy, MADE + [("ann", "own", "ann")], ("ann", "use", "ann")))
        self.assertFalse(Why([((0, "ann", "ann"), ("ann", "own", "ann")), loop]).shows(policy, MADE + [("ann", "own", "ann")], ("ann", "use", "ann")))

    def test_raises_and_meets(self):
        policy = Policy([("raise", "own", "use"), ("meet", "own", "use", "see")])
        state = State(["ann"], ["box"], [("ann", "own", "box"), ("box", "own", "box")])
        right = ("ann", "see", "box")
        steps = [((0, "ann", "box"), ("ann", "use", "box")), ((1, "ann", "box"), right)]
        self.assertEqual(why(policy, state, right).steps, steps)
        for changed in (steps[1:], steps[::-1], [steps[0], ((1, "ann", "box", "box", ("own", "own")), right)], [((1, "ann", "box"), ("ann", "use", "box")), steps[1]],
                        [steps[0], ((1, "ann", "tin"), right)], [steps[0], ((1, "box", "box"), right)]):
            self.assertFalse(Why(changed).shows(policy, state, right))

    def test_only_people_do_deeds(self):
        policy = Policy([("raise", "own", "use"), ("make", ["give"]), ("hand", "give", [("own", "own")])])
        state = State(["ann"], ["box"], [("box", "own", "box"), ("ann", "own", "box"), ("ann", "own", "ann")])
        self.assertFalse(Why([((0, "box", "box"), ("box", "use", "box"))]).shows(policy, state, ("box", "use", "box")))
        self.assertTrue(Why([((0, "ann", "ann"), ("ann", "use", "ann"))]).shows(policy, state, ("ann", "use", "ann")))
        policy = policy + Policy([("fetch", "give", [("use", "see")])])
        put = ((2, "ann", "ann+", "box", ("own", "own")), ("ann+", "own", "box"))
        raised = ((0, "ann+", "box"), ("ann+", "use", "box"))
        seen = ((3, "ann", "ann+", "box", ("use", "see")), ("ann", "see", "box"))
        self.assertFalse(Why([put, raised, seen]).shows(policy, state, ("ann", "see", "box")))

    def test_no_step_is_a_make(self):
        policy = Policy([("make", ["own"]), ("hand", "own", [("use", "use")]), ("fetch", "own", [("use", "see")])])
        state = State(["ann", "bob"], ["box"], [("ann", "use", "box")])
        for name, made in (("ann+", []), ("bob+", [((0, "ann", "bob+"), ("ann", "own", "bob+"))])):
            steps = made + [((1, "ann", name, "box", ("use", "use")), (name, "use", "box")),
                            ((2, "ann", name, "box", ("use", "see")), ("ann", "see", "box"))]
            self.assertIs(Why(steps).shows(policy, state, ("ann", "see", "box")), name == "ann+")
        kept = Policy([("make", ["own"]), ("fetch", "own", [("use", "see")])])
        state = State(["ann", "bob"], [], [("ann", "own", "bob")])
        for name in ("ann+", "bob+", "new", "bob"):
            self.assertFalse(Why([((0, "ann", name), ("ann", "own", name))]).shows(kept, state, ("ann", "own", "ann")))
            self.assertFalse(Why([((0, "ann", name), ("ann", "own", "ann"))]).shows(kept, state, ("ann", "own", "ann")))
        self.assertFalse(Why([((0, "ann", "ann"), ("ann", "own", "ann"))]).shows(policy, state, ("ann", "own", "ann")))

    def test_what_a_deed_does_not_bring(self):
        deed = (0, "ann", "bob", "box", ("use", "use"))
        for right in (("ann", "use", "bob"), ("ann", "take", "box"), ("bob", "own", "box")):
            self.assertFalse(Why([(deed, right)]).shows(FETCH, STATE, right))
        strange = ((0, "ann", "bob", "box", ("use", "own")), ("ann", "own", "box"))
        self.assertFalse(Why([strange]).shows(FETCH, STATE, ("ann", "own", "box")))
        raised = Policy([("raise", "own", "use"), ("meet", "own", "own", "see")])
        state = State(["ann"], ["box"], [("ann", "own", "box")])
        for long in ((0, "ann", "box", "box", ("own", "use")), (0, "ann", "box", "box"), (1, "ann", "box", "box", ("own", "see"))):
            right = ("ann", "use" if long[0] == 0 else "see", "box")
            self.assertTrue(Why([(long[:3], right)]).shows(raised, state, right))
            self.assertFalse(Why([(long, right)]).shows(raised, state, right))
        self.assertFalse(Why([((0, "ann", "bob"), GOAL)]).shows(FETCH, STATE, GOAL))

    def test_changed_at_random(self):
        rnd = random.Random(133)
        told = {True: 0, False: 0}
        for policy, state in cases(134, 120, "ab", rights=(2, 7), rules=(2, 4)):
            helpers = [p + "+" for p in state.people if policy.made() is not None]
            come = plain_rounds(policy, state)
            deeds = plain_deeds(policy, state.people, state.parties() + helpers, come)
            for right in between(state, come):
                steps = list(why(policy, state, right).steps)
                for change in range(6):
                    changed = list(steps)
                    if change == 0 and changed:
                        changed.pop(rnd.randrange(len(changed)))
                    elif change == 1:
                        rnd.shuffle(changed)
                    elif deeds:
                        at = rnd.randrange(len(changed) + 1)
                        changed[at:at + rnd.randint(0, 1)] = [rnd.choice(deeds)]
                    holds = plain_shows(policy, state, right, changed)
                    self.assertIs(Why(changed).shows(policy, state, right), holds, (policy.rules, state.rights, right, changed))
                    told[holds] += 1
        self.assertTrue(told[True] > 100 and told[False] > 300, told)

    def test_equality_and_copies(self):
        given = [[list(deed), list(right)] for deed, right in MADE_STEPS]
        found = Why(given)
        given[0][1].clear()
        given.clear()
        self.assertTrue(found == Why(MADE_STEPS) and found == Why(tuple(MADE_STEPS)))
        found.steps = [list(step) for step in MADE_STEPS]
        self.assertTrue(found == Why(MADE_STEPS) and Why(MADE_STEPS) == found)
        self.assertFalse(found == Why(MADE_STEPS[1:]) or found == MADE_STEPS or Why([]) == [])
        found.brings().clear()
        self.assertEqual([len(found), found.brings()[0]], [3, ("ann+", "use", "box")])

    def test_errors_in_order(self):
        large = State(list(LETTERS), [])
        for call in (why, Why([]).shows):
            self.assertIsNone(refused(self, BadPolicy, call, None, None, "bad").number)
            self.assertIsNone(refused(self, BadState, call, FETCH, None, "bad").part)
            refused(self, TooLarge, call, FETCH, large, "bad")
            for right in ("bad", list(GOAL), ("ann", "use", "tin"), ("ann+", "use", "box"), ("ann", "Use", "box")):
                refused(self, BadRight, call, FETCH, STATE, right)
        for right in (("box", "use", "box"), ("bob", "other", "box")):
            refused(self, NeverComes, why, FETCH, STATE, right)
            self.assertFalse(Why([]).shows(FETCH, STATE, right))

    def test_the_bounds_are_quick(self):
        rnd = random.Random(135)
        names = ["p" + letter for letter in LETTERS[:12]]
        words = [one + other for one in "abcd" for other in "abcde"]
        start = time.perf_counter()
        for number in range(5):
            policy = Policy([(kind, rnd.choice(words[:4]), sorted(set((rnd.choice(words), rnd.choice(words)) for _ in range(9))))
                             for kind in ("fetch", "hand") * 5] + [("make", words[:9])])
            state = State(names[:8], names[8:], [(rnd.choice(names), rnd.choice(words), rnd.choice(names)) for _ in range(60)])
            for right in rnd.sample(all_that_come(policy, state), 5):
                self.assertTrue(why(policy, state, right).shows(policy, state, right))
            by_them_alone(policy, state, names[:3])
        self.assertLess(time.perf_counter() - start, 10)


class LastingTest(unittest.TestCase):

    def test_no_names_all_names_and_names_twice(self):
        all_come = sorted(STATE.rights + [GOAL])
        for names, holds in (([], True), (["bob"], True), (("ann",), False), (["ann", "ann"], False), (["bob", "ann"], False)):
            self.assertEqual(lasting(FETCH, STATE, names), all_come if holds else STATE.rights)
            self.assertEqual(by_them_alone(FETCH, STATE, names), [] if holds else [GOAL])

    def test_makes_of_those_who_are_not_willing(self):
        self.assertEqual(by_them_alone(MAKING, MADE, ["ann"]), [])
        policy = Policy([("make", ["own"]), ("hand", "own", [("use", "use")]), ("fetch", "see", [("own", "see")]), ("fetch", "see", [("use", "use")])])
        state = State(["ann", "bob"], ["box"], [("ann", "use", "box"), ("bob", "see", "ann")])
        self.assertEqual(lasting(policy, state - [("ann", "use", "box")], ["ann"]), [("bob", "see", "ann")])
        self.assertEqual(lasting(policy, state, ["bob"]), state.rights)

    def test_against_rounds_of_the_others(self):
        rnd = random.Random(136)
        for policy, state in cases(137, 150, rights=(1, 8)):
            names = rnd.sample(state.people, rnd.randint(0, len(state.people)))
            others = [name for name in state.people if name not in names]
            come, without = between(state, plain_rounds(policy, state)), between(state, plain_rounds(policy, state, others))
            self.assertEqual(lasting(policy, state, names + names), without)
            self.assertEqual(by_them_alone(policy, state, tuple(names)), [right for right in come if right not in without])

    def test_errors_in_order(self):
        large = State(list(LETTERS), [])
        for call in (lasting, by_them_alone):
            self.assertIsNone(refused(self, BadPolicy, call, None, None, "bad").number)
            self.assertIsNone(refused(self, BadState, call, BOTH, None, "bad").part)
            refused(self, TooLarge, call, BOTH, large, "bad")
            for names in (None, "ann", {"ann": 1}, 5):
                self.assertIsNone(refused(self, BadParty, call, BOTH, STATE, names).name)
            for name in ("box", "zoe", None, 1, True, ["ann"], ("ann",)):
                self.assertEqual(refused(self, BadParty, call, BOTH, STATE, ["ann", name, "zed"]).name, name)


if __name__ == "__main__":
    unittest.main()
