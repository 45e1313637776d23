import itertools
import random
import time
import unittest

from handedkeys.closing import Can, Never, all_that_come
from handedkeys.errors import BadFrame, BadNumber, BadPolicy, BadRight
from handedkeys.frames import Ever, Frame, NoNumber, closed_frame, frame_rights, judge_frame
from handedkeys.policies import Policy
from handedkeys.states import State
from tests.tools import FETCH, random_policy, refused

FRAME = Frame(["boss", "clerk"], ["desk"], [("boss", "take", "clerk"), ("clerk", "use", "desk"), ("clerk", "take", "clerk")])
GOAL = ("boss", "use", "desk")
NEVER = ("clerk", "use", "clerk")


def random_frame(rnd, words):
    """A frame of one to three roles."""
    people, things = ["boss", "clerk"][:rnd.randint(0, 2)], ["desk", "safe"][:rnd.randint(0, 1)]
    people = people if people or things else ["boss"]
    roles = people + things
    return Frame(people, things, [(rnd.choice(roles), rnd.choice(words), rnd.choice(roles)) for _ in range(rnd.randint(0, 4))])


def member_rights(frame, numbers, come):
    """For all rights of roles that come up for members, whether each pair of the members has it so."""
    members = {role: frame.members(role, numbers[role]) for role in frame.roles()}
    found = {}
    for one in frame.roles():
        for other in frame.roles():
            for word in "abc":
                for is_other in (False, True):
                    pairs = [(first, second) for first in members[one] for second in members[other]
                             if one != other or (first != second) == is_other]
                    if pairs and (one == other or not is_other):
                        found[one, word, other, is_other] = {(first, word, second) in come for first, second in pairs}
    return found


class FrameTest(unittest.TestCase):

    def test_lists_ascend_without_doublets(self):
        frame = Frame(("clerk", "boss"), ("safe", "desk"), (("clerk", "use", "desk"), ("boss", "use", "desk"), ("clerk", "use", "desk")))
        self.assertEqual([frame.people, frame.things], [["boss", "clerk"], ["desk", "safe"]])
        self.assertEqual(frame.rights, [("boss", "use", "desk"), ("clerk", "use", "desk")])
        self.assertEqual([frame.roles(), len(frame)], [["boss", "clerk", "desk", "safe"], 4])
        self.assertEqual(Frame(["zoo"], ["ant"]).roles(), ["ant", "zoo"])

    def test_equal(self):
        same = Frame(("clerk", "boss"), ("desk",), tuple(reversed(FRAME.rights)) * 2)
        self.assertTrue(same == FRAME)
        for other in (Frame(["boss", "clerk"], ["desk"], FRAME.rights[1:]), Frame(["boss"], ["clerk", "desk"], FRAME.rights),
                      Frame(["boss", "clerk"], ["desk", "safe"], FRAME.rights), Frame(["aid", "boss", "clerk"], ["desk"], FRAME.rights),
                      FRAME.state(), None):
            self.assertFalse(FRAME == other)

    def test_refusals(self):
        for people in (None, "boss", ["boss", "boss"], ["Boss"], ["chefsie"], [1], ["boss", ""], {"boss": 1}, [["boss"]]):
            self.assertEqual(refused(self, BadFrame, Frame, people, None, None).part, "people")
        for things in (None, "desk", ["desk", "desk"], ["boss"], ["desktop"], [True], list("abcdef")):
            self.assertEqual(refused(self, BadFrame, Frame, ["boss"], things, None).part, "things")
        self.assertEqual(refused(self, BadFrame, Frame, [], [], None).part, "things")
        self.assertEqual(refused(self, BadFrame, Frame, list("abcdefg"), [], None).part, "things")
        self.assertEqual([len(Frame(list("abcdef"), [])), len(Frame([], list("abcdef"))), len(Frame(["abcdef"], []))], [6, 6, 1])
        for rights in (None, "rights", [("boss", "use", "desk")], [("boss", "Use", "boss")], [["boss", "use", "boss"]],
                       [("boss", "use")], ("boss", "use", "boss"), [("boss", "ninechars", "boss")], [5]):
            self.assertEqual(refused(self, BadFrame, Frame, ["boss"], [], rights).part, "rights")
        self.assertEqual(len(Frame(["boss"], [], [("boss", "eightlet", "boss")]).rights), 1)

    def test_members(self):
        self.assertEqual(FRAME.members("boss"), ["bossza"])
        self.assertEqual(FRAME.members("desk", 3), ["deskza", "deskzb", "deskzc"])
        self.assertEqual(FRAME.members("desk", 9)[-1], "deskzi")
        for role in ("safe", None, 1, ["boss"], "bossza"):
            self.assertEqual(refused(self, BadFrame, FRAME.members, role, 0).part, role)
        for many in (0, 10, -1, True, None, "1", 1.0):
            refused(self, BadNumber, FRAME.members, "boss", many)

    def test_state(self):
        self.assertTrue(FRAME.state() == State(["bossza", "clerkza"], ["deskza"], [
            ("bossza", "take", "clerkza"), ("clerkza", "use", "deskza"), ("clerkza", "take", "clerkza")]))
        self.assertTrue(FRAME.state({}) == FRAME.state())
        many = FRAME.state({"clerk": 2, "desk": 3})
        self.assertEqual(many.people, ["bossza", "clerkza", "clerkzb"])
        self.assertEqual(many.things, ["deskza", "deskzb", "deskzc"])
        self.assertEqual(len(many), 2 + 2 * 3 + 2 * 2)
        self.assertIn(("clerkza", "take", "clerkzb"), many)
        self.assertIn(("clerkzb", "take", "clerkzb"), many)
        self.assertEqual(len(Frame(list("abcdef"), []).state({letter: 9 for letter in "abcdef"}).people), 54)

    def test_state_refuses(self):
        for numbers in (None, [], "", 5, {"safe": 1}, ("boss", 1), {"boss": 0}, {"boss": 10}, {"boss": True}, {"boss": "1"}, {1: 1},
                        {"boss": 1, "desk": None}, [("boss", 1)]):
            refused(self, BadNumber, FRAME.state, numbers)

    def test_copies(self):
        people, things, rights, numbers = ["boss"], ["desk"], [("boss", "use", "desk")], {"boss": 2}
        frame = Frame(people, things, rights)
        frame.state(numbers)
        self.assertEqual([people, things, rights, numbers], [["boss"], ["desk"], [("boss", "use", "desk")], {"boss": 2}])
        people.clear(), things.clear(), rights.clear()
        frame.roles().clear()
        frame.members("boss").clear()
        self.assertEqual([len(frame), len(frame.rights), frame.members("boss")], [2, 1, ["bossza"]])


class JudgeTest(unittest.TestCase):

    def test_roles_of_people_and_of_things(self):
        self.assertTrue(judge_frame(FETCH, FRAME, GOAL))
        self.assertFalse(judge_frame(FETCH, FRAME, NEVER))
        self.assertFalse(judge_frame(FETCH, FRAME, NEVER, is_other=True))
        self.assertTrue(judge_frame(FETCH, FRAME, ("clerk", "take", "clerk"), is_other=True))
        twin = Policy([("fetch", "take", [("take", "own"), ("use", "see")])])
        frame = Frame(["boss"], ["desk"], [("boss", "take", "desk"), ("desk", "use", "desk")])
        self.assertTrue(judge_frame(twin, frame, ("desk", "use", "desk"), is_other=True))
        self.assertTrue(judge_frame(twin, frame, ("boss", "see", "desk")))
        self.assertFalse(judge_frame(twin, frame, ("boss", "own", "boss"), is_other=True))

    def test_what_it_tells_is_so_for_other_numbers(self):
        rnd = random.Random(41)
        for number in range(80):
            words = ["a", "b", "c"][:rnd.randint(1, 3)]
            policy, frame = random_policy(rnd, words, rnd.randint(1, 4), number % 2 == 1), random_frame(rnd, words)
            told = {one: True for one in frame_rights(policy, frame)}
            self.assertEqual(list(told), sorted(told))
            for many in itertools.product((1, 2, 3), repeat=len(frame)):
                numbers = dict(zip(frame.roles(), many))
                come = set(all_that_come(policy, frame.state(numbers)))
                for right, answers in member_rights(frame, numbers, come).items():
                    self.assertEqual(answers, {right in told}, (policy.rules, frame.rights, numbers, right))
            for one, other in itertools.product(frame.roles(), repeat=2):
                for word in words:
                    for is_other in (False, True)[:1 + (one == other)]:
                        found = judge_frame(policy, frame, (one, word, other), is_other=is_other)
                        self.assertEqual(bool(found), (one, word, other, is_other) in told)
                        self.assertIs(type(found), Ever if found else NoNumber)
                        self.assertTrue(found.shows(policy, frame, (one, word, other), is_other=is_other))

    def test_evidence_is_that_of_the_state(self):
        found = judge_frame(FETCH, FRAME, GOAL)
        inner = ("bossza", "use", "deskza")
        self.assertTrue(Can(found.deeds).shows(FETCH, FRAME.state(), inner))
        found = judge_frame(FETCH, FRAME, NEVER, is_other=True)
        self.assertTrue(Never(found.rights).shows(FETCH, FRAME.state({"clerk": 2}), ("clerkza", "use", "clerkzb")))

    def test_changed_deeds(self):
        found = judge_frame(FETCH, FRAME, GOAL)
        deed = (0, "bossza", "clerkza", "deskza", ("use", "use"))
        self.assertTrue(found == Ever([deed]))
        for deeds, holds in (([], False), ((list(deed),), True), ([deed, deed], True), ([deed[:4] + (["use", "use"],)], True),
                             ([(0, "boss", "clerk", "desk", ("use", "use"))], False), ([deed, ("drop",) + ("bossza", "use", "deskza")], False),
                             ([(0, "bossza", "clerkzb", "deskza", ("use", "use"))], False)):
            found.deeds = deeds
            self.assertEqual(found.shows(FETCH, FRAME, GOAL), holds, deeds)
        self.assertTrue(Ever([]).shows(FETCH, FRAME, ("clerk", "take", "clerk"), is_other=True))
        self.assertTrue(Ever([]).shows(FETCH, FRAME, ("clerk", "take", "clerk")))
        self.assertFalse(Ever([]).shows(FETCH, FRAME, NEVER))

    def test_changed_rights(self):
        found = judge_frame(FETCH, FRAME, NEVER)
        rights = list(found.rights)
        for more, holds in ((("deskza", "use", "bossza"), True), (("clerkza", "use", "clerkza"), False),
                            (("clerkzb", "use", "deskza"), False), (("boss", "use", "desk"), False), (rights[0], True)):
            found.rights = rights + [more]
            self.assertEqual(found.shows(FETCH, FRAME, NEVER), holds, more)
        for number in range(len(rights)):
            self.assertFalse(NoNumber(rights[:number] + rights[number + 1:]).shows(FETCH, FRAME, NEVER))
        self.assertTrue(NoNumber(tuple(list(right) for right in rights)).shows(FETCH, FRAME, NEVER))
        self.assertFalse(NoNumber(rights).shows(FETCH, FRAME, NEVER, is_other=True))
        self.assertFalse(NoNumber(rights).shows(FETCH, FRAME, GOAL))

    def test_bool_and_equality(self):
        self.assertTrue(bool(Ever([])) is True and bool(NoNumber([])) is False)
        self.assertTrue(Ever([(0, "a", "b")]) == Ever(([0, "a", "b"],)) and NoNumber([]) == NoNumber(()))
        found, barred = Ever([(0, "a", "b")]), NoNumber([("a", "b", "c")])
        found.deeds, barred.rights = ([0, "a", "b"],), (["a", "b", "c"],)
        self.assertTrue(found == Ever([(0, "a", "b")]) and Ever([(0, "a", "b")]) == found)
        self.assertTrue(barred == NoNumber([("a", "b", "c")]) and NoNumber([("a", "b", "c")]) == barred)
        deeds, rights = [[0, "a", "b"]], [["a", "b", "c"]]
        copied, kept = Ever(deeds), NoNumber(rights)
        deeds[0].clear(), rights.clear()
        self.assertTrue(found == copied and barred == kept)
        for one, other in ((Ever([]), NoNumber([])), (Ever([]), []), (NoNumber([]), None), (Ever([]), Can([])), (NoNumber([]), Never([])), (Ever([(0, "a", "b")]), Ever([])),
                           (NoNumber([("a", "b", "c")]), NoNumber([]))):
            self.assertFalse(one == other)

    def test_closed_frame(self):
        closed = closed_frame(FETCH, FRAME)
        self.assertTrue(closed == Frame(FRAME.people, FRAME.things, FRAME.rights + [GOAL]))
        rnd = random.Random(43)
        for number in range(100):
            policy, frame = random_policy(rnd, ["a", "b"], rnd.randint(1, 3), number % 2 == 1), random_frame(rnd, ["a", "b"])
            closed = closed_frame(policy, frame)
            numbers = {role: 2 for role in frame.roles()}
            come = set(all_that_come(policy, frame.state(numbers)))
            answers = member_rights(frame, numbers, come)
            rights = [(one, word, other) for one, word, other, is_other in answers if not is_other
                      and answers[one, word, other, False] == {True} == answers.get((one, word, other, True), {True})]
            self.assertEqual(closed.rights, sorted(rights))
            self.assertEqual([closed.people, closed.things], [frame.people, frame.things])

    def test_errors_in_order(self):
        asking = [judge_frame, Ever([]).shows, NoNumber([]).shows]
        for call in asking + [frame_rights, closed_frame]:
            rest = ["bad"] if call in asking else []
            named = {"is_other": "bad"} if call in asking else {}
            self.assertIsNone(refused(self, BadPolicy, call, None, None, *rest, **named).number)
            self.assertIsNone(refused(self, BadFrame, call, FETCH, FRAME.state(), *rest, **named).part)
        for call in asking:
            for is_other in (0, 1, None, "True"):
                refused(self, BadRight, call, FETCH, FRAME, GOAL, is_other=is_other)
            for right in ("bad", list(GOAL), ("boss", "use"), ("boss", "use", "safe"), ("bossza", "use", "deskza"), ("boss", "Use", "desk")):
                refused(self, BadRight, call, FETCH, FRAME, right)
            refused(self, BadRight, call, FETCH, FRAME, GOAL, is_other=True)
            with self.assertRaises(TypeError):
                call(FETCH, FRAME, GOAL, True)

    def test_six_roles_are_quick(self):
        rnd = random.Random(45)
        words = [one + other for one in "abc" for other in "abcde"]
        policy = Policy([(kind, rnd.choice(words), sorted(set((rnd.choice(words), rnd.choice(words)) for _ in range(9))))
                         for kind in ("fetch", "hand") * 5] + [("make", words[:9])])
        roles = list("abcdef")
        frame = Frame(roles[:5], roles[5:], [(rnd.choice(roles), rnd.choice(words), rnd.choice(roles)) for _ in range(60)])
        start = time.perf_counter()
        closed_frame(policy, frame)
        self.assertLess(time.perf_counter() - start, 5)


if __name__ == "__main__":
    unittest.main()
