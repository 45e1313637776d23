import random
import time
import unittest

from handedkeys.closing import Can, Never, all_that_come, behind_all, can_come, judge_can
from handedkeys.deeds import done
from handedkeys.errors import BadDeed, BadPolicy, BadRight, BadState, TooLarge
from handedkeys.policies import Policy
from handedkeys.states import State
from tests.tools import (ALL, BOTH, FETCH, GRANT, all_rights, between, cases, plain_deeds, plain_rounds, random_policy,
                         reached, refused)

STATE = State(["ann", "bob"], ["box", "cup"], [("ann", "take", "bob"), ("bob", "give", "ann"), ("bob", "use", "box"),
                                               ("box", "use", "cup"), ("box", "own", "ann")])
RIGHT = ("ann", "use", "box")
NEVER = ("ann", "use", "cup")
PARTIES = ["p" + letter for letter in "abcdefghijklm"]


def is_barred(policy, state, rights, right):
    """Whether rights are such as [5] tells of a Never, by going through all deeds."""
    made = policy.made()
    names = state.parties() + ([name + "+" for name in state.people] if made is not None else [])
    needed = list(state.rights) + [(p, word, p + "+") for p in state.people for word in made or ()]
    if any(one not in names or other not in names for one, _, other in rights):
        return False
    brought = [brings for _, brings in plain_deeds(policy, state.people, names, set(rights))]
    return all(one in rights for one in needed + brought) and right not in rights


class JudgeTest(unittest.TestCase):

    def test_rights_that_come_and_rights_that_never_do(self):
        for words, number, seed in (("abc", 160, 1), ("ab", 80, 2), ("abcd", 60, 3)):
            for policy, state in cases(seed, number, words, rights=(0, 8)):
                since = plain_rounds(policy, state)
                self.assertEqual(all_that_come(policy, state), between(state, since))
                for right in all_rights(state, words + "z"):
                    found = judge_can(policy, state, right)
                    self.assertEqual(bool(found), right in since)
                    self.assertIs(type(found), Can if right in since else Never)
                    self.assertEqual(can_come(policy, state, right), right in since)
                    self.assertTrue(found.shows(policy, state, right))
                    if found:
                        self.assertIn(right, done(policy, state, found.deeds))
                        self.assertIs(type(found.deeds), list)
                    else:
                        self.assertTrue(is_barred(policy, state, found.rights, right))

    def test_whatever_real_deeds_lead_to_can_come(self):
        for policy, state in cases(4, 60, "ab", people=(1, 2), things=(0, 1), rights=(1, 4), rules=(1, 3)):
            come = all_that_come(policy, state)
            for held, _ in reached(policy, state, 4 if policy.made() is None else 3):
                for right in between(state, held):
                    self.assertIn(right, come)

    def test_rights_on_made_things_help(self):
        # ann makes a thing, bob takes the right to give to it from ann, and gives, and ann takes from it
        policy = Policy([("fetch", "take", [("give", "give"), ("use", "use")]), ("hand", "give", [("use", "use")]),
                         ("make", ["take", "give"])])
        state = State(["ann", "bob"], ["box"], [("bob", "take", "ann"), ("bob", "use", "box")])
        found = judge_can(policy, state, RIGHT)
        self.assertTrue(found)
        self.assertEqual(len(found.deeds), 4)
        self.assertIn(RIGHT, done(policy, state, found.deeds))
        self.assertEqual([policy[deed[0]][0] for deed in found.deeds], ["make", "fetch", "hand", "fetch"])
        self.assertFalse(can_come(policy.without(2), state, RIGHT))
        self.assertFalse(can_come(policy.without(2) + Policy([("make", ["give"])]), state, RIGHT))
        self.assertFalse(judge_can(policy, state - [("bob", "take", "ann")], RIGHT))

    def test_names_of_made_things_are_new_words(self):
        policy = Policy([("make", ["own"]), ("hand", "own", [("see", "see")]), ("fetch", "own", [("see", "use")])])
        for people, things in ((["a", "b"], ["c", "e"]), (["z", "b"], ["a", "d"]), (["x", "y"], ["z"]), (list("abcdefghijkl"), [])):
            state = State(people, things, [(one, "see", other) for one in people for other in people + things])
            for right in all_that_come(policy, state):
                found = judge_can(policy, state, right)
                self.assertTrue(found.shows(policy, state, right))
                self.assertEqual([policy[deed[0]][0] for deed in found.deeds], ["make", "hand", "fetch"] if right[1] == "use" else [])

    def test_words_that_no_rule_has(self):
        self.assertEqual(judge_can(FETCH, STATE, ("box", "own", "ann")).deeds, [])
        self.assertFalse(judge_can(FETCH, STATE, ("ann", "own", "box")))
        self.assertIn(("box", "own", "ann"), all_that_come(FETCH, STATE))
        self.assertIn(("box", "own", "ann"), judge_can(FETCH, STATE, NEVER).rights)

    def test_helpers_in_the_list_that_bars(self):
        make = FETCH + Policy([("make", ["take", "own"])])
        rights = judge_can(make, STATE, NEVER).rights
        for right in (("ann", "take", "ann+"), ("ann", "own", "ann+"), ("bob", "take", "bob+"), ("ann", "take", "bob+")):
            self.assertIn(right, rights)
        self.assertFalse(any("+" in right[0] + right[2] for right in judge_can(FETCH, STATE, NEVER).rights))
        self.assertFalse([right for right in all_that_come(make, STATE) if "+" in right[0] + right[2]])

    def test_answers_do_not_change_what_is_given_and_are_new(self):
        held = list(STATE.rights)
        self.assertTrue(judge_can(ALL, STATE, RIGHT) == judge_can(ALL, STATE, RIGHT))
        all_that_come(FETCH, STATE).clear()
        self.assertEqual(len(all_that_come(FETCH, STATE)), 6)
        judge_can(FETCH, STATE, NEVER).rights.clear()
        self.assertTrue(judge_can(FETCH, STATE, NEVER).rights)
        self.assertEqual(STATE.rights, held)


class EvidenceTest(unittest.TestCase):

    def test_changed_deeds(self):
        found = judge_can(FETCH, STATE, RIGHT)
        deed = (0, "ann", "bob", "box", ("use", "use"))
        self.assertEqual(found.deeds, [deed])
        for deeds, holds in (([], False), ([deed, deed], True), ((deed,), True), ([list(deed)], True),
                             ([(0, "ann", "bob", "box", ["use", "use"])], True), ([(0, "ann", "bob", "cup", ("use", "use"))], False),
                             ([(0, "bob", "ann", "box", ("use", "use"))], False), ([(9, "ann", "bob", "box", ("use", "use"))], False),
                             ([deed, ("drop", "ann", "use", "box")], False), ([("drop", "ann", "take", "bob"), deed], False),
                             ([deed, ("drop", "ann", "take", "bob")], True), ([deed, (0, "ann", "ann", "ann", ("use", "use"))], False)):
            found.deeds = deeds
            self.assertEqual(found.shows(FETCH, STATE, RIGHT), holds, deeds)
            self.assertEqual(Can(deeds).shows(FETCH, STATE, RIGHT), holds, deeds)
        found.deeds = []
        self.assertTrue(found.shows(FETCH, STATE, ("bob", "use", "box")))
        self.assertFalse(found.shows(FETCH, STATE, NEVER))

    def test_other_deeds_may_lead_there_too(self):
        policy = FETCH + Policy([("make", ["use"])])
        deed = (0, "ann", "bob", "box", ("use", "use"))
        self.assertTrue(Can([(1, "bob", "zzz"), deed]).shows(policy, STATE, RIGHT))
        self.assertFalse(Can([(1, "bob", "cup"), deed]).shows(policy, STATE, RIGHT))
        self.assertFalse(Can([(1, "bob", "ann+"), deed]).shows(policy, STATE, RIGHT))
        self.assertFalse(Can([(False, "ann", "bob", "box", ("use", "use"))]).shows(policy, STATE, RIGHT))

    def test_changed_rights(self):
        found = judge_can(FETCH, STATE, NEVER)
        rights = list(found.rights)
        for number in range(len(rights)):
            fewer = rights[:number] + rights[number + 1:]
            self.assertEqual(Never(fewer).shows(FETCH, STATE, NEVER), False)
        for more, holds in ((("cup", "use", "ann"), True), (("box", "use", "box"), True), (("ann", "zzz", "cup"), True),
                            (NEVER, False), (("bob", "use", "cup"), False), (("ann", "take", "box"), False),
                            (("ann", "use", "dan"), False), (("ann", "use", "ann+"), False), (("ann+", "use", "cup"), False),
                            (("ann", "Use", "cup"), False), (rights[0], True)):
            found.rights = rights + [more]
            self.assertEqual(found.shows(FETCH, STATE, NEVER), holds, more)
            self.assertEqual(is_barred(FETCH, STATE, found.rights, NEVER) or more[1] == "Use", holds or more[1] == "Use")
        for same in (tuple(rights), rights[::-1], [list(right) for right in rights], rights + rights):
            found.rights = same
            self.assertTrue(found.shows(FETCH, STATE, NEVER))
        self.assertFalse(found.shows(FETCH, STATE, RIGHT))
        self.assertFalse(found.shows(FETCH + Policy([("make", ["use"])]), STATE, NEVER))

    def test_changed_rights_against_going_through_all(self):
        rnd = random.Random(8)
        for policy, state in cases(9, 120, "ab", rights=(0, 5)):
            for right in all_rights(state, "ab"):
                found = judge_can(policy, state, right)
                if found or rnd.random() < 0.5:
                    continue
                names = state.parties() + ([name + "+" for name in state.people] if policy.made() else [])
                for _ in range(4):
                    changed = list(found.rights)
                    if changed and rnd.random() < 0.5:
                        changed.pop(rnd.randrange(len(changed)))
                    else:
                        changed.append((rnd.choice(names), rnd.choice("ab"), rnd.choice(names)))
                    self.assertEqual(Never(changed).shows(policy, state, right), is_barred(policy, state, changed, right))

    def test_bool_and_equality(self):
        deed = (0, "ann", "bob", "box", ("use", "use"))
        self.assertTrue(bool(Can([])) is True and bool(Never([])) is False and bool(Never([RIGHT])) is False)
        self.assertTrue(Can([deed]) == Can((list(deed),)))
        self.assertTrue(Never([RIGHT]) == Never((RIGHT,)))
        found, barred = Can([deed]), Never([RIGHT])
        found.deeds, barred.rights = (list(deed),), (list(RIGHT),)
        self.assertTrue(found == Can([deed]) and Can([deed]) == found and barred == Never([RIGHT]) and Never([RIGHT]) == barred)
        for one, other in ((Can([]), Never([])), (Can([deed]), Can([])), (Never([RIGHT]), Never([NEVER])), (Can([]), []),
                           (Never([]), []), (Never(STATE.rights), STATE), (Never([]), None)):
            self.assertFalse(one == other)
            self.assertTrue(one != other)

    def test_what_is_given_is_copied(self):
        deeds, rights = [[0, "ann", "box"]], [["ann", "use", "box"]]
        can, never = Can(deeds), Never(rights)
        deeds[0].append("more")
        deeds.append(1)
        rights[0].clear()
        self.assertEqual([list(can.deeds[0]), list(never.rights[0])], [[0, "ann", "box"], ["ann", "use", "box"]])
        self.assertEqual([len(can.deeds), len(never.rights)], [1, 1])


class BehindTest(unittest.TestCase):

    def test_behind_drops_and_makes(self):
        drop = ("drop", "ann", "take", "bob")
        self.assertEqual(behind_all(FETCH, STATE, [drop]), list(STATE - [("ann", "take", "bob")]))
        self.assertEqual(behind_all(FETCH, STATE, []), all_that_come(FETCH, STATE))
        deed = (0, "ann", "bob", "box", ("use", "use"))
        self.assertEqual(behind_all(FETCH, STATE, (deed, drop)), list(STATE - [("ann", "take", "bob")] + [RIGHT]))
        make = BOTH + Policy([("make", ["take", "give"])])
        deeds = [(2, "ann", "tin"), (2, "bob", "urn"), (1, "bob", "ann", "urn", ("give", "give"))]
        behind = behind_all(make, STATE, deeds)
        self.assertEqual(behind, all_that_come(make, STATE))
        lost = deeds + [("drop", "bob", "give", "ann"), drop, ("drop", "ann", "give", "urn")]
        self.assertEqual(behind_all(make, STATE, lost), [right for right in all_that_come(make, done(make, STATE, lost))
                                                         if right[0] in STATE.parties() and right[2] in STATE.parties()])
        self.assertFalse([right for right in behind_all(make, STATE, lost) if "tin" in right or "urn" in right])

    def test_behind_random_deeds(self):
        rnd = random.Random(5)
        for policy, state in cases(6, 120, rights=(1, 8)):
            deeds, now = [], state
            for number in range(6):
                options = [deed for deed, _ in plain_deeds(policy, now.people, now.parties(), set(now.rights))]
                options += [("drop",) + right for right in now if right[0] in now.people]
                if policy.made() is not None:
                    options.append(([rule[0] for rule in policy].index("make"), now.people[0], "new" + "abcdef"[number]))
                if options:
                    deeds.append(rnd.choice(options))
                    now = done(policy, now, deeds[-1:])
            self.assertEqual(behind_all(policy, state, deeds), between(state, plain_rounds(policy, now)))

    def test_more_than_twelve_parties_may_come_of_makes(self):
        policy = GRANT + Policy([("make", ["give"])])
        deeds = [(1, "bob", "new" + letter) for letter in "abcdefghijklmn"]
        self.assertEqual(behind_all(policy, STATE, deeds), all_that_come(policy, STATE))


class RefusalTest(unittest.TestCase):

    def test_errors_in_order(self):
        large = State(PARTIES, [])
        asking = [judge_can, can_come, Can([]).shows, Never([]).shows]
        for call in asking + [all_that_come, behind_all]:
            rest = [] if call is all_that_come else ["bad"]
            self.assertIsNone(refused(self, BadPolicy, call, list(FETCH), None, *rest).number)
            self.assertIsNone(refused(self, BadState, call, FETCH, STATE.rights, *rest).part)
            refused(self, TooLarge, call, FETCH, large, *rest)
        for call in asking:
            for right in ("bad", None, list(RIGHT), ("ann", "use"), ("dan", "use", "box"), ("ann", "use", "dan"),
                          ("ann", "Use", "box"), ("ann", 1, "box"), ("ann", "use", "ann+"), (["ann"], "use", "box"),
                          ("ann", "", "box"), RIGHT + ("box",), ("ann", "ninechars", "box")):
                refused(self, BadRight, call, FETCH, STATE, right)

    def test_bad_deeds(self):
        deed = (0, "ann", "bob", "box", ("use", "use"))
        self.assertIsNone(refused(self, BadDeed, behind_all, FETCH, STATE, None).place)
        self.assertEqual(refused(self, BadDeed, behind_all, FETCH, STATE, [deed, list(deed)]).place, 1)
        self.assertEqual(refused(self, BadDeed, behind_all, FETCH, STATE, [(0, "bob", "ann", "box", ("use", "use"))]).place, 0)

    def test_twelve_parties_and_thirteen(self):
        for people, things in ((PARTIES[:12], []), (PARTIES[:5], PARTIES[5:12]), ([], PARTIES[:12])):
            self.assertEqual(all_that_come(ALL, State(people, things)), [])
        for people, things in ((PARTIES, []), (PARTIES[:5], PARTIES[5:]), ([], PARTIES)):
            refused(self, TooLarge, all_that_come, ALL, State(people, things))


class SpeedTest(unittest.TestCase):

    def test_twelve_parties_with_many_rights(self):
        rnd = random.Random(1)
        letters = [one + other for one in "abcde" for other in "abcdefghij"]
        start = time.perf_counter()
        for words in (letters[:3], letters):
            policy = Policy(list(random_policy(rnd, words, 3, False)) + [
                (kind, rnd.choice(words), sorted(set((rnd.choice(words), rnd.choice(words)) for _ in range(9))))
                for kind in ("fetch", "hand") * 4] + [("make", words[:3])])
            for many in (12, 100, 3000):
                rights = [(rnd.choice(PARTIES[:12]), rnd.choice(words), rnd.choice(PARTIES[:12])) for _ in range(many)]
                state = State(PARTIES[:8], PARTIES[8:12], rights)
                come = all_that_come(policy, state)
                for right in come[::len(come) // 3 + 1] + [("pa", "zz", "pb")]:
                    found = judge_can(policy, state, right)
                    self.assertTrue(found.shows(policy, state, right))
                    self.assertEqual(bool(found), right != ("pa", "zz", "pb"))
        self.assertLess(time.perf_counter() - start, 10)

    def test_a_long_way(self):
        words = [one + other for one in "abcdefghij" for other in "abcdefghi"]
        chain = list(zip(words, words[1:]))[::-1]
        rules = [("fetch", "take", chain[9 * k:9 * k + 9]) for k in range(10)]
        ring = [(one, "take", other) for one, other in zip(PARTIES[:12], PARTIES[1:12] + PARTIES[:1])]
        state = State(PARTIES[:12], [], ring + [("pa", words[0], "pa")])
        start = time.perf_counter()
        goal = all_that_come(Policy(rules), state)[-1]
        found = judge_can(Policy(rules), state, goal)
        self.assertTrue(found.shows(Policy(rules), state, goal))
        goal = max((right for right in all_that_come(Policy(rules), state) if right[1] == words[-1]), default=None)
        self.assertEqual(len(judge_can(Policy(rules), state, goal).deeds), len(words) - 1)
        self.assertLess(time.perf_counter() - start, 5)


if __name__ == "__main__":
    unittest.main()
