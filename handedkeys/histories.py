"""In how many orders rights come up one by one, without makes and drops, and over how many states."""

from handedkeys.checks import check_case
from handedkeys.errors import BadNumber, TooLarge
from handedkeys.fewest import choices, new_bits
from handedkeys.forms import is_place, is_row, is_triple
from handedkeys.reaching import reach_of

MOST_COMING = 10


class Histories:
    """The sets of new rights to which deeds lead, as sums of bits, one bit for each right.

    `orders` tells of each set in how many orders what is left can come up behind it.
    """

    def __init__(self, policy, state):
        reach = reach_of([rule for rule in policy.rules if rule[0] != "make"], state)
        self.bits = new_bits(reach)
        if len(self.bits) > MOST_COMING:
            raise TooLarge("too many rights can come up")
        self.steps = [(bit, [needs for needs, _ in ways]) for bit, ways in choices(reach, self.bits)]
        self.orders = {}
        for there in sorted(self.all_sets(), reverse=True):
            self.orders[there] = max(1, sum([self.orders[there | bit] for bit in self.next_bits(there)]))

    def all_sets(self):
        """The list of all sets to which deeds lead, the empty one first."""
        seen = {0: True}
        found = [0]
        ahead = [0]
        while ahead:
            there = ahead.pop()
            new = [there | bit for bit in self.next_bits(there) if there | bit not in seen]
            seen.update({one: True for one in new})
            found.extend(new)
            ahead.extend(new)
        return found

    def next_bits(self, there):
        """The list of the bits of the rights that can come up next behind a set, ascending by rights."""
        return [bit for bit, ways in self.steps
                if not bit & there and any([needs & there == needs for needs in ways])]

    def order_at(self, number):
        """The order with a number."""
        rights = {bit: right for right, bit in self.bits.items()}
        order = []
        there = 0
        while len(order) < len(rights):
            for bit in self.next_bits(there):
                if number < self.orders[there | bit]:
                    break
                number = number - self.orders[there | bit]
            order.append(rights[bit])
            there = there | bit
        return order

    def number_at(self, order):
        """The number of an order; None for what is none."""
        number = 0
        there = 0
        for right in order:
            chosen = self.bits.get(right, 0) if is_triple(right) else 0
            ready = self.next_bits(there)
            if chosen not in ready:
                return None
            number = number + sum([self.orders[there | bit] for bit in ready if bit < chosen])
            there = there | chosen
        return number if len(order) == len(self.bits) else None


def count_orders(policy, state):
    """In how many orders rights can come up one by one, till nothing new can come."""
    check_case(policy, state)
    return Histories(policy, state).orders[0]


def order_with(policy, state, number):
    """The order with a number, of all orders, ascending as lists of rights."""
    check_case(policy, state)
    histories = Histories(policy, state)
    if not is_place(number, histories.orders[0]):
        raise BadNumber("this is no number of an order")
    return histories.order_at(number)


def number_of_order(policy, state, order):
    """The number of an order; None for what is none."""
    check_case(policy, state)
    histories = Histories(policy, state)
    return histories.number_at(order) if is_row(order) else None


def count_states(policy, state):
    """To how many states such deeds lead, the first one, too."""
    check_case(policy, state)
    return len(Histories(policy, state).orders)
