import random
import time
import unittest

from handedkeys.errors import BadNumber, BadPolicy, BadState, TooLarge
from handedkeys.histories import count_orders, count_states, number_of_order, order_with
from handedkeys.policies import Policy
from handedkeys.states import State
from tests.tools import ALL, FETCH, cases, plain_deeds, refused

POLICY = Policy([("raise", "own", "lend"), ("raise", "own", "use"), ("raise", "use", "see")])
STATE = State(["ann"], ["box"], [("ann", "own", "box")])
LEND, USE, SEE = (("ann", word, "box") for word in ("lend", "use", "see"))
LETTERS = "abcdefghijklm"


def plain_orders(policy, state, most):
    """All orders and all sets of rights on the way, by doing deed after deed; None, if there are too many."""
    sets, ended, layer = {frozenset(state.rights)}, [], [()]
    while layer:
        following = []
        for order in layer:
            held = set(state.rights) | set(order)
            new = sorted({right for _, right in plain_deeds(policy, state.people, state.parties(), held)} - held)
            ended += [] if new else [list(order)]
            following += [order + (right,) for right in new]
            sets |= {frozenset(held | {right}) for right in new}
        layer = following
        if len(layer) > most:
            return None
    return sorted(ended), sets


class HistoriesTest(unittest.TestCase):

    def test_orders(self):
        orders = [[LEND, USE, SEE], [USE, LEND, SEE], [USE, SEE, LEND]]
        self.assertEqual([count_orders(POLICY, STATE), count_states(POLICY, STATE)], [3, 6])
        self.assertEqual([order_with(POLICY, STATE, number) for number in range(3)], orders)
        self.assertEqual([number_of_order(POLICY, STATE, order) for order in orders], [0, 1, 2])

    def test_nothing_new_can_come(self):
        for policy, state in ((Policy([]), STATE), (POLICY, State([], ["box"], [("box", "own", "box")])), (POLICY, STATE + [LEND, USE, SEE]),
                              (Policy([("make", ["own"]), ("raise", "own", "use")]), State(["ann"], ["box"]))):
            self.assertEqual([count_orders(policy, state), order_with(policy, state, 0), number_of_order(policy, state, []), count_states(policy, state)],
                             [1, [], 0, 1])
            self.assertIsNone(number_of_order(policy, state, [("ann", "use", "box")]))
            refused(self, BadNumber, order_with, policy, state, 1)

    def test_makes_do_not_count(self):
        policy = Policy([("make", ["give", "take"]), ("hand", "give", [("use", "use")]), ("fetch", "take", [("use", "use"), ("take", "take")])])
        state = State(["ann", "bob"], ["box"], [("ann", "use", "box"), ("bob", "take", "ann")])
        self.assertEqual([count_orders(policy, state), order_with(policy, state, 0), count_states(policy, state)], [1, [("bob", "use", "box")], 2])
        unlinked = State(["ann", "bob"], ["box"], [("ann", "use", "box")])
        self.assertEqual([count_orders(policy, unlinked), count_states(policy, unlinked)], [1, 1])

    def test_what_is_no_order(self):
        for order in ([], [LEND], [LEND, USE], [LEND, SEE, USE], [SEE, USE, LEND], [LEND, USE, SEE, SEE], [LEND, USE, USE, SEE], [USE, USE, SEE],
                      [("ann", "own", "box"), LEND, USE, SEE], [LEND, USE, ("ann", "see", "ann")], [list(LEND), USE, SEE], None, "order", 5,
                      [1, 2, 3], [None], [LEND, USE, SEE, ("box", "own", "box")], {}, [LEND, USE, ("ann", "see")], [[]], [(LEND, USE, SEE)]):
            self.assertIsNone(number_of_order(POLICY, STATE, order), order)

    def test_one_right_by_several_deeds(self):
        policy = Policy([("raise", "a", "b"), ("raise", "a", "c"), ("raise", "b", "d"), ("raise", "c", "d"), ("meet", "b", "c", "e")])
        state = State(["ann"], [], [("ann", "a", "ann")])
        orders, sets = plain_orders(policy, state, 100)
        self.assertEqual([count_orders(policy, state), count_states(policy, state)], [len(orders), len(sets)])
        self.assertEqual([[word for _, word, _ in order_with(policy, state, number)] for number in (0, 3, 4, 5)],
                         [["b", "c", "d", "e"], ["c", "b", "d", "e"], ["c", "b", "e", "d"], ["c", "d", "b", "e"]])

    def test_against_doing_deed_after_deed(self):
        counts = set()
        for policy, state in cases(201, 400, "abc", people=(1, 3), rights=(1, 6), rules=(1, 4)):
            told = plain_orders(policy, state, 150)
            if told is None:
                continue
            orders, sets = told
            self.assertEqual(count_orders(policy, state), len(orders), (policy.rules, state.rights))
            self.assertEqual(count_states(policy, state), len(sets))
            self.assertEqual([order_with(policy, state, number) for number in range(len(orders))], orders)
            for number, order in enumerate(orders):
                self.assertEqual(number_of_order(policy, state, order), number)
                swapped = order[1:2] + order[:1] + order[2:]
                self.assertEqual(number_of_order(policy, state, swapped), orders.index(swapped) if swapped in orders else None)
            refused(self, BadNumber, order_with, policy, state, len(orders))
            counts.add(len(orders))
        self.assertTrue(len(counts) > 12 and {1, 2, 3, 6} <= counts, counts)

    def test_ten_new_rights_and_eleven(self):
        start = time.perf_counter()
        words = ["w" + letter for letter in LETTERS]
        ten = Policy([("raise", "own", word) for word in words[:10]])
        self.assertEqual([count_orders(ten, STATE), count_states(ten, STATE)], [3628800, 1024])
        self.assertEqual(order_with(ten, STATE, 3628799), [("ann", word, "box") for word in words[9::-1]])
        self.assertEqual(order_with(ten, STATE, 3628798)[-2:], [("ann", "wa", "box"), ("ann", "wb", "box")])
        self.assertEqual(number_of_order(ten, STATE, [("ann", word, "box") for word in words[9::-1]]), 3628799)
        self.assertLess(time.perf_counter() - start, 3)
        eleven = ten + Policy([("raise", "own", words[10])])
        making = ten + Policy([("make", ["own"])])
        self.assertEqual(count_orders(making, STATE), 3628800)
        self.assertEqual(count_orders(eleven, STATE + [("ann", "wk", "box")]), 3628800)
        for call, rest in ((count_orders, []), (order_with, ["bad"]), (number_of_order, [[]]), (count_states, [])):
            refused(self, TooLarge, call, eleven, STATE, *rest)

    def test_errors_in_order(self):
        large = State(list(LETTERS), [])
        for call, rest in ((count_orders, []), (order_with, ["bad"]), (number_of_order, ["bad"]), (count_states, [])):
            self.assertIsNone(refused(self, BadPolicy, call, None, None, *rest).number)
            self.assertIsNone(refused(self, BadState, call, FETCH, None, *rest).part)
            refused(self, TooLarge, call, FETCH, large, *rest)
        for number in (3, -1, True, False, None, "1", 1.0, 10 ** 9, [0]):
            refused(self, BadNumber, order_with, POLICY, STATE, number)

    def test_arguments_stay(self):
        order = [LEND, USE, SEE]
        number_of_order(POLICY, STATE, order)
        order_with(POLICY, STATE, 0).clear()
        self.assertEqual([order, len(order_with(POLICY, STATE, 0)), len(STATE)], [[LEND, USE, SEE], 3, 1])

    def test_large_states_are_quick(self):
        names = ["p" + letter for letter in LETTERS[:12]]
        rules = [(kind, "own", [(one, one) for one in "abcdefghi"]) for kind in ("fetch", "hand") * 5]
        full = State(names, [], [(one, word, other) for one in names for word in ["own"] + list("abcdefghi") for other in names])
        state = full - full.rights[90:99]
        start = time.perf_counter()
        self.assertEqual([count_states(Policy(rules), state), count_orders(Policy(rules), state)], [512, 362880])
        self.assertLess(time.perf_counter() - start, 4)
        self.assertEqual(count_orders(ALL, State(["ann"], [])), 1)


if __name__ == "__main__":
    unittest.main()
