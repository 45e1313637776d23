import itertools
import random
import time
import unittest

from handedkeys.errors import BadFrame, BadPolicy, BadRight
from handedkeys.frames import Frame, frame_rights, judge_frame
from handedkeys.policies import Policy
from handedkeys.rolehelp import comes_by_roles, least_roles, needed_roles
from tests.tools import BOTH, FETCH, plain_rounds, random_policy, refused

FRAME = Frame(["boss", "clerk"], ["desk"], [("boss", "give", "clerk"), ("boss", "use", "desk"), ("clerk", "take", "boss")])
GOAL = ("clerk", "use", "desk")
MATES = Frame(["aide", "boss"], ["desk"], [("aide", "take", "aide"), ("aide", "take", "boss"), ("boss", "own", "boss")])


def some_frame(rnd, words):
    """A frame of one to three roles of people, perhaps with one of things."""
    people, things = ["aide", "boss", "clerk"][:rnd.randint(1, 3)], ["desk"][:rnd.randint(0, 1)]
    roles = people + things
    return Frame(people, things, [(rnd.choice(roles), rnd.choice(words), rnd.choice(roles)) for _ in range(rnd.randint(1, 5))])


def questions(frame, words):
    """All rights between roles, each with is_other, if it may be."""
    for one, other in itertools.product(frame.roles(), repeat=2):
        for word in words:
            yield (one, word, other), False
            if one == other:
                yield (one, word, other), True


def groups(names):
    """All sets of some names, as tuples, the smaller ones first."""
    return [group for many in range(len(names) + 1) for group in itertools.combinations(names, many)]


def comes_for(policy, frame, right, is_other, roles, numbers):
    """Whether each pair of members that is asked for gets the right by the deeds of all members of some roles."""
    state = frame.state(numbers)
    willing = [name for name in state.people if name[:-2] in roles]
    come = plain_rounds(policy, state, willing)
    one, word, other = right
    pairs = [(first, second) for first in frame.members(one, numbers[one]) for second in frame.members(other, numbers[other])
             if one != other or (first != second) == is_other]
    return {(first, word, second) in come for first, second in pairs}


class RoleHelpTest(unittest.TestCase):

    def test_no_roles_all_roles_and_roles_given_twice(self):
        for roles, holds in (([], False), (["clerk"], True), (("boss",), True), (["boss", "clerk"], True), (["clerk", "clerk"], True)):
            self.assertIs(comes_by_roles(BOTH, FRAME, GOAL, roles), holds)
        self.assertIs(comes_by_roles(BOTH, FRAME, ("boss", "use", "desk"), []), True)
        self.assertIs(comes_by_roles(BOTH, FRAME, ("desk", "use", "boss"), ["clerk", "boss"]), False)
        self.assertEqual(least_roles(BOTH, FRAME, GOAL), [("boss",), ("clerk",)])
        self.assertEqual(needed_roles(BOTH, FRAME, GOAL), [])
        self.assertEqual([least_roles(FETCH, FRAME, GOAL), needed_roles(FETCH, FRAME, GOAL)], [[("clerk",)], ["clerk"]])

    def test_rights_that_are_there_and_that_never_come_up(self):
        self.assertEqual([least_roles(BOTH, FRAME, ("boss", "use", "desk")), needed_roles(BOTH, FRAME, ("boss", "use", "desk"))], [[()], []])
        never = ("desk", "use", "boss")
        self.assertEqual([least_roles(BOTH, FRAME, never), needed_roles(BOTH, FRAME, never)], [[], ["boss", "clerk"]])
        things = Frame([], ["desk"], [("desk", "use", "desk")])
        self.assertEqual([least_roles(BOTH, things, ("desk", "use", "desk")), needed_roles(BOTH, things, ("desk", "use", "desk"))], [[()], []])
        self.assertEqual([least_roles(BOTH, things, ("desk", "own", "desk")), needed_roles(BOTH, things, ("desk", "own", "desk"))], [[], []])

    def test_is_other(self):
        policy = Policy([("fetch", "take", [("own", "see")])])
        right = ("boss", "see", "boss")
        grown = Frame(MATES.people, MATES.things, MATES.rights + [("boss", "take", "boss")])
        for is_other in (False, True):
            self.assertIs(comes_by_roles(policy, grown, right, ["boss"], is_other=is_other), True)
            self.assertIs(comes_by_roles(policy, grown, right, ["aide"], is_other=is_other), False)
            self.assertIs(comes_by_roles(policy, MATES, ("aide", "take", "aide"), (), is_other=is_other), True)
            self.assertEqual(least_roles(policy, grown, right, is_other=is_other), [("boss",)])
            self.assertEqual(needed_roles(policy, grown, right, is_other=is_other), ["boss"])
        alone = Policy([("make", ["own"]), ("raise", "own", "see")])
        own = Frame(["boss"], [], [("boss", "own", "boss")])
        self.assertEqual(least_roles(alone, own, right, is_other=True), [("boss",)])
        mine = Policy([("hand", "pass", [("pass", "own")]), ("fetch", "pass", [("pass", "see")])])
        ring = Frame(["aide", "boss"], [], [("aide", "pass", "boss"), ("boss", "pass", "aide")])
        self.assertEqual([least_roles(mine, ring, ("boss", "own", "boss"), is_other=one) for one in (False, True)], [[("aide",)], [("aide",)]])

    def test_what_is_told_is_so_for_other_numbers(self):
        rnd = random.Random(171)
        sizes, other_told = set(), 0
        for number in range(60):
            words = ["a", "b", "c"][:rnd.randint(1, 3)]
            policy, frame = random_policy(rnd, words, rnd.randint(1, 4), number % 2 == 1), some_frame(rnd, words)
            come = [(one[:3], one[3]) for one in frame_rights(policy, frame) if one[:3] not in frame.rights]
            for right, is_other in rnd.choices(list(questions(frame, words)), k=1) + rnd.sample(come, min(3, len(come))):
                enough = []
                for roles in groups(frame.people):
                    told = comes_by_roles(policy, frame, right, roles[::-1] + roles[:1], is_other=is_other)
                    for many in ((1, 1, 1, 1), (2, 2, 2, 2), (2, 3, 1, 2)):
                        numbers = dict(zip(frame.roles(), many))
                        if is_other and numbers[right[0]] == 1:
                            numbers[right[0]] = 2
                        self.assertEqual(comes_for(policy, frame, right, is_other, roles, numbers), {told})
                    enough += [roles] if told else []
                    other_told += told and is_other
                least = [one for one in enough if not any(set(less) < set(one) for less in enough)]
                self.assertEqual(least_roles(policy, frame, right, is_other=is_other), least)
                needed = [role for role in frame.people if all(role in one for one in enough)]
                self.assertEqual(needed_roles(policy, frame, right, is_other=is_other), needed)
                self.assertEqual(bool(judge_frame(policy, frame, right, is_other=is_other)), tuple(frame.people) in enough)
                sizes |= {(len(least), len(one)) for one in least}
        self.assertTrue({(1, 0), (1, 1)} <= sizes and max(size for _, size in sizes) > 1 and other_told, sizes)

    def test_several_least_sets(self):
        policy = Policy([("hand", "give", [("use", "use")]), ("fetch", "ask", [("use", "use")])])
        frame = Frame(["aide", "boss", "clerk", "dean"], ["desk"], [("aide", "use", "desk"), ("aide", "give", "boss"), ("boss", "give", "dean"),
                                                                    ("clerk", "ask", "aide"), ("clerk", "give", "dean")])
        right = ("dean", "use", "desk")
        self.assertEqual([least_roles(policy, frame, right), needed_roles(policy, frame, right)], [[("clerk",), ("aide", "boss")], []])

    def test_bad_roles(self):
        for roles in (None, "boss", {"boss": 1}, 5):
            self.assertIsNone(refused(self, BadFrame, comes_by_roles, BOTH, FRAME, GOAL, roles).part)
        for role in ("desk", "bossza", "dean", None, 1, True, ["boss"], ("boss",)):
            self.assertEqual(refused(self, BadFrame, comes_by_roles, BOTH, FRAME, GOAL, ["boss", role, "zoe"]).part, role)

    def test_errors_in_order(self):
        for call, rest in ((comes_by_roles, ["bad"]), (least_roles, []), (needed_roles, [])):
            self.assertIsNone(refused(self, BadPolicy, call, None, None, "bad", *rest, is_other="bad").number)
            self.assertIsNone(refused(self, BadFrame, call, BOTH, FRAME.state(), "bad", *rest, is_other="bad").part)
            for is_other in (0, 1, None, "True"):
                refused(self, BadRight, call, BOTH, FRAME, GOAL, *rest, is_other=is_other)
            for right in ("bad", list(GOAL), ("boss", "use"), ("boss", "use", "safe"), ("bossza", "use", "deskza"), ("boss", "Use", "desk")):
                refused(self, BadRight, call, BOTH, FRAME, right, *rest)
            refused(self, BadRight, call, BOTH, FRAME, GOAL, *rest, is_other=True)
            with self.assertRaises(TypeError):
                call(BOTH, FRAME, GOAL, *rest, True)

    def test_arguments_stay(self):
        roles = ["clerk", "boss", "clerk"]
        comes_by_roles(BOTH, FRAME, GOAL, roles)
        least_roles(BOTH, FRAME, GOAL).clear()
        needed_roles(BOTH, FRAME, ("desk", "use", "boss")).clear()
        self.assertEqual([roles, FRAME.people, len(least_roles(BOTH, FRAME, GOAL))], [["clerk", "boss", "clerk"], ["boss", "clerk"], 2])

    def test_six_roles_are_quick(self):
        rnd = random.Random(172)
        words = [one + other for one in "abc" for other in "abcde"]
        policy = Policy([(kind, rnd.choice(words), sorted(set((rnd.choice(words), rnd.choice(words)) for _ in range(9))))
                         for kind in ("fetch", "hand") * 5] + [("make", words[:9])])
        roles = list("abcdef")
        start = time.perf_counter()
        for many in (6, 20, 60):
            frame = Frame(roles, [], [(rnd.choice(roles), rnd.choice(words), rnd.choice(roles)) for _ in range(many)])
            for word in words[::5]:
                least_roles(policy, frame, ("a", word, "a"), is_other=True)
                needed_roles(policy, frame, ("a", word, "b"))
        self.assertLess(time.perf_counter() - start, 10)


if __name__ == "__main__":
    unittest.main()
