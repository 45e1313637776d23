import itertools
import random
import time
import unittest

from handedkeys.errors import BadDeed, BadNumber, BadPolicy, TooLarge
from handedkeys.mixing import Calm, Races, judge_mixings, mixed, mixings, never_mixed
from handedkeys.plans import Effect, effect
from handedkeys.policies import Policy
from tests.test_plans import POLICY, drawn_plan
from tests.tools import ALL, random_policy, refused

ONE, OTHER = [(2, "ann", "box"), (3, "ann", "box")], [("drop", "ann", "own", "box")]
CALM = [(2, "ann", "box"), (2, "ann", "cup")], [(2, "bob", "box")]


def choices(one, other):
    """All choices for two plans, ascending."""
    many = len(one) + len(other)
    return [choice for choice in itertools.product((0, 1), repeat=many) if sum(choice) == len(other)]


def plain_mixed(one, other, choice):
    """The plan that is mixed by a choice."""
    left = [iter(one), iter(other)]
    return [next(left[turn]) for turn in choice]


def unlike(effects):
    """The different ones of some effects."""
    found = []
    for one in effects:
        if one not in found:
            found.append(one)
    return found


def drawn_pairs(seed, many):
    """Generate policies and two plans of up to four deeds."""
    rnd = random.Random(seed)
    for number in range(many):
        policy = ALL if number % 3 == 0 else random_policy(rnd, list("abc"), rnd.randint(1, 3), True)
        plan = drawn_plan(rnd, policy, "abc", rnd.randint(0, 6))
        half = rnd.randint(0, min(4, len(plan)))
        yield policy, plan[:half], tuple(plan[half:])


class MixingTest(unittest.TestCase):

    def test_mixed(self):
        self.assertEqual(mixed(POLICY, ONE, OTHER, [0, 1, 0]), [ONE[0], OTHER[0], ONE[1]])
        self.assertEqual(mixed(POLICY, tuple(ONE), tuple(OTHER), (1, 0, 0)), OTHER + ONE)
        self.assertEqual([mixed(POLICY, [], [], []), mixed(POLICY, ONE, [], [0, 0]), mixed(POLICY, (), OTHER, (1,))], [[], ONE, OTHER])
        choice = [0, 0, 1]
        mixed(POLICY, ONE, OTHER, choice).clear()
        self.assertEqual([choice, len(ONE), len(OTHER)], [[0, 0, 1], 2, 1])

    def test_wrong_choices(self):
        for choice in (None, "001", {0: 1}, [0, 1], [0, 0, 1, 0], [0, 1, 1], [0, 0, 0], [1, 1, 0], [0, 0, True], [False, 0, 1], [0, 0, 2], [-1, 1, 1], [0, 0, "1"], [0, 0, None], [0, 0, 1.0]):
            refused(self, BadNumber, mixed, POLICY, ONE, OTHER, choice)
        for choice in (None, [0], (1,)):
            refused(self, BadNumber, mixed, POLICY, [], [], choice)

    def test_mixings(self):
        found = mixings(POLICY, ONE, OTHER)
        self.assertEqual(len(found), 2)
        for told, choice in found:
            self.assertIs(type(choice), tuple)
            self.assertTrue(told == effect(POLICY, mixed(POLICY, ONE, OTHER, choice)))
        self.assertEqual(sum(told is None for told, _ in found), 1)
        self.assertEqual(len(mixings(POLICY, *CALM)), 1)
        (told, choice), = mixings(POLICY, [], [])
        self.assertTrue(told == Effect([], [], [], [], []) and choice == ())
        (told, choice), = mixings(POLICY, ONE, ())
        self.assertTrue(told == effect(POLICY, ONE) and choice == (0, 0))
        self.assertEqual(mixings(POLICY, [(1, "ann", "ann")], [(1, "bob", "cup")])[0][0], None)
        found.clear()
        self.assertEqual(len(mixings(POLICY, ONE, OTHER)), 2)

    def test_calm(self):
        for one, other in (CALM, ([], []), (ONE, []), ([(1, "ann", "ann")], [(2, "ann", "box")]), ([(1, "ann", "tin")], [(1, "bob", "tin")]),
                           ([(1, "ann", "box")], [(2, "ann", "box")]), ([(1, "ann", "bob")], [(2, "ann", "bob")])):
            found = judge_mixings(POLICY, one, other)
            self.assertIs(bool(found), True)
            self.assertTrue(found.shows(POLICY, one, other) and found == Calm(found.effect))
            self.assertTrue(found.effect == effect(POLICY, list(one) + list(other)))
        self.assertIsNone(judge_mixings(POLICY, [(1, "ann", "tin")], [(1, "bob", "tin")]).effect)

    def test_races(self):
        for one, other in ((ONE, OTHER), (OTHER, ONE), ([("drop", "ann", "read", "box")], [(2, "ann", "box")])):
            found = judge_mixings(POLICY, one, other)
            self.assertIs(bool(found), False)
            self.assertTrue(found.shows(POLICY, one, other))
            self.assertEqual([type(found.first), type(found.second)], [tuple, tuple])
            first, second = (effect(POLICY, mixed(POLICY, one, other, choice)) for choice in (found.first, found.second))
            self.assertTrue(first != second)
            self.assertTrue(found == Races(list(found.first), list(found.second)))

    def test_bent_evidence(self):
        found = judge_mixings(POLICY, *CALM)
        told = found.effect
        for bent in (None, Effect(told.people, told.needs, told.sure[1:], told.gone, told.made), Effect(told.people[:1], told.needs, told.sure, told.gone, told.made)):
            found.effect = bent
            self.assertIs(found.shows(POLICY, *CALM), False)
        self.assertIs(Calm(effect(POLICY, ONE + OTHER)).shows(POLICY, ONE, OTHER), False)
        self.assertIs(Calm(None).shows(POLICY, ONE, OTHER), False)
        self.assertIs(Races((0, 0, 1), (0, 1, 0)).shows(POLICY, ONE, OTHER), True)
        self.assertIs(Races([0, 0, 1], [1, 0, 0]).shows(POLICY, ONE, OTHER), True)
        for first, second in (((0, 0, 1), (0, 0, 1)), ((0, 1, 0), (1, 0, 0)), ((0, 0), (1, 0, 0)), ((0, 0, 1), (1, 0, 0, 0)), ((0, 0, 1), ()), ((0, 0, 1), (1, 1, 0)), ((0, 1, 1), (1, 0, 0))):
            self.assertIs(Races(first, second).shows(POLICY, ONE, OTHER), False)
        bent = Races((0, 0, 1), (0, 1, 0))
        bent.first = [0, 0, 1]
        self.assertTrue(bent.shows(POLICY, ONE, OTHER) and bent == Races((0, 0, 1), (0, 1, 0)))
        self.assertFalse(bent == Races((0, 0, 1), (1, 0, 0)) or bent == Races((0, 1, 0), (0, 1, 0)) or bent == Calm(None) or Calm(None) == None)  # noqa: E711
        self.assertTrue(Calm(told) == Calm(Effect(told.people, told.needs, told.sure, told.gone, told.made)) and not Calm(told) == Calm(None))

    def test_evidence_is_copied(self):
        told = effect(POLICY, ONE)
        found = Calm(told)
        told.needs.clear()
        self.assertTrue(found.shows(POLICY, ONE, []))
        judge_mixings(POLICY, ONE, []).effect.needs.clear()
        self.assertTrue(judge_mixings(POLICY, ONE, []) == found)
        first = [0, 0, 1]
        race = Races(first, (0, 1, 0))
        first.clear()
        self.assertEqual(race.first, (0, 0, 1))

    def test_never_mixed(self):
        self.assertEqual(never_mixed(POLICY, ONE, OTHER), [(0, 1, 0), (1, 0, 0)])
        self.assertEqual([never_mixed(POLICY, *CALM), never_mixed(POLICY, [], [])], [[], []])
        self.assertEqual(never_mixed(POLICY, [(1, "ann", "ann")], OTHER), [(0, 1), (1, 0)])

    def test_against_going_through_all_choices(self):
        seen = set()
        for policy, one, other in drawn_pairs(331, 300):
            told = [(choice, effect(policy, plain_mixed(one, other, choice))) for choice in choices(one, other)]
            self.assertEqual(never_mixed(policy, one, other), [choice for choice, found in told if found is None])
            found = mixings(policy, one, other)
            effects = unlike([found for _, found in told])
            self.assertEqual(len(found), len(effects))
            self.assertEqual(unlike([one for one, _ in found] + effects), [one for one, _ in found])
            table = dict(told)
            self.assertTrue(all(table[choice] == one for one, choice in found))
            judged = judge_mixings(policy, one, other)
            self.assertEqual(bool(judged), len(effects) == 1)
            self.assertTrue(judged.shows(policy, one, other))
            for choice, _ in told[:5]:
                self.assertEqual(mixed(policy, one, other, choice), plain_mixed(one, other, choice))
            seen.add((len(effects), None in effects))
        self.assertTrue({(1, True), (1, False), (2, True), (2, False), (3, True)} <= seen, seen)

    def test_errors_in_order(self):
        nine, wrong = [ONE[0]] * 9, [(9, "ann", "box")]
        calls = ((mixed, ["bad"]), (mixings, []), (judge_mixings, []), (never_mixed, []), (Calm(None).shows, []), (Races((), ()).shows, []))
        for call, rest in calls:
            self.assertIsNone(refused(self, BadPolicy, call, None, "bad", "bad", *rest).number)
            for plan, place in (("bad", None), (wrong, 0), ([ONE[0], None], 1), (nine + wrong, 9)):
                self.assertEqual(refused(self, BadDeed, call, POLICY, plan, None, *rest).place, place)
                self.assertEqual(refused(self, BadDeed, call, POLICY, nine, plan, *rest).place, place)
            for one, other in ((nine, []), ([], nine), (nine, nine)):
                refused(self, TooLarge, call, POLICY, one, other, *rest)

    def test_eight_deeds_come_within_a_few_seconds(self):
        one = [(2, "ann", "t" + letter) for letter in "abcdefgh"]
        other = [(2, "bob", "t" + letter) for letter in "abcdefgh"]
        flip = [ONE[0], ("drop", "ann", "read", "box")] * 4
        start = time.perf_counter()
        self.assertTrue(judge_mixings(POLICY, one, other).shows(POLICY, one, other))
        self.assertEqual([len(mixings(POLICY, one, other)), never_mixed(POLICY, one, other)], [1, []])
        self.assertEqual(len(mixings(POLICY, flip, flip)), 2)
        self.assertEqual(len(never_mixed(POLICY, [(1, "ann", "ann")] + one[:7], other)), 12870)
        policy = Policy([("raise", word, other) for word, other in ("ab", "bc", "cd", "da")])
        ring = [(number % 4, "ann", "box") if number % 3 else ("drop", "ann", "abcd"[number % 4], "box") for number in range(8)]
        mixings(policy, ring, ring[::-1])
        self.assertLess(time.perf_counter() - start, 15)


if __name__ == "__main__":
    unittest.main()
