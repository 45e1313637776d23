"""Plans: lists of deeds, what they ask of a state, and what they leave behind, whatever the state."""

from handedkeys.checks import check_plain_state, check_plan, check_size
from handedkeys.errors import BadNumber, BadRight, NeverDone
from handedkeys.forms import as_rows, is_place, is_right
from handedkeys.reaching import reach_of
from handedkeys.sketches import sketch_of
from handedkeys.states import State

LONE_THING = "a"


class Effect:
    """What a plan asks of the states that allow it, and what it changes in them."""

    def __init__(self, people, needs, sure, gone, made):
        self.people = sorted(set(people))
        self.needs = sorted(set(needs))
        self.sure = sorted(set(sure))
        self.gone = sorted(set(gone))
        self.made = sorted(set(made))

    def parties(self):
        """The ascending list of the people, and of the parties of what is needed."""
        return sorted(set([name for one, _, other in self.needs for name in (one, other)] + list(self.people)))

    def allows(self, state):
        """Whether a state allows the plan."""
        check_plain_state(state)
        held = {right: True for right in state.rights}
        parties = state.people + state.things
        return (all([name in state.people for name in self.people]) and all([right in held for right in self.needs])
                and not any([name in parties for name in self.made]))

    def behind(self, state):
        """The state behind the plan."""
        if not self.allows(state):
            raise NeverDone("the state does not allow this plan")
        gone = {right: True for right in self.gone}
        rights = [right for right in state.rights if right not in gone]
        return State(state.people, state.things + list(self.made), rights + list(self.sure))

    def least(self):
        """The state that has what the plan needs, and nothing else."""
        things = [name for name in self.parties() if name not in self.people]
        if len(things) + len(self.people) == 0:
            things = [LONE_THING]
        return State(self.people, things, self.needs)

    def __eq__(self, other):
        return (isinstance(other, Effect) and as_rows(self.people) == as_rows(other.people)
                and as_rows(self.needs) == as_rows(other.needs) and as_rows(self.sure) == as_rows(other.sure)
                and as_rows(self.gone) == as_rows(other.gone) and as_rows(self.made) == as_rows(other.made))


class SamePlans:
    """The effect that two plans have; None, if no state allows them."""

    def __init__(self, effect):
        self.effect = copied_effect(effect)

    def shows(self, policy, one, other):
        """Whether this is the effect of both plans."""
        first, second = both_effects(policy, one, other)
        return self.effect == first and self.effect == second

    def __bool__(self):
        return True

    def __eq__(self, other):
        return isinstance(other, SamePlans) and self.effect == other.effect


class OtherPlans:
    """A state in which two plans do not do the same."""

    def __init__(self, state):
        self.state = copied_state(state)

    def shows(self, policy, one, other):
        """Whether the state allows just one of the plans, or they lead to unlike states."""
        first, second = both_effects(policy, one, other)
        return differ_in(first, second, self.state)

    def __bool__(self):
        return False

    def __eq__(self, other):
        return isinstance(other, OtherPlans) and self.state == other.state


def copied_effect(effect):
    """A new effect that is equal to one; what is none stays as it is."""
    if not isinstance(effect, Effect):
        return effect
    return Effect(effect.people, effect.needs, effect.sure, effect.gone, effect.made)


def copied_state(state):
    """A new state that is equal to one; what is none stays as it is."""
    return State(state.people, state.things, state.rights) if isinstance(state, State) else state


def effect_of(sketch):
    """The effect of the deeds of a sketch; None without one."""
    if sketch is None:
        return None
    made = sketch.made
    gone = [right for right in sketch.gone if right[0] not in made and right[2] not in made]
    return Effect(list(sketch.people), list(sketch.needs), list(sketch.held), gone, list(made))


def plan_effect(policy, plan):
    """The effect of a plan that has the right form; None, if no state allows it."""
    return effect_of(sketch_of(policy.rules, plan))


def both_effects(policy, one, other):
    """The effects of two plans; what is none is refused."""
    check_plan(policy, one)
    check_plan(policy, other)
    return plan_effect(policy, one), plan_effect(policy, other)


def effect(policy, plan):
    """What a plan asks of a state and changes in it; None, if no state allows it."""
    check_plan(policy, plan)
    return plan_effect(policy, plan)


def least_state(policy, plan):
    """The state that has what a plan needs, and nothing else; None, if no state allows the plan."""
    found = effect(policy, plan)
    return None if found is None else found.least()


def differ_in(first, second, state):
    """Whether a state allows just one of two effects' plans, or they lead from it to unlike states."""
    allowed = first is not None and first.allows(state)
    if allowed != (second is not None and second.allows(state)):
        return True
    return allowed and first.behind(state) != second.behind(state)


def telling_states(first, second):
    """States in one of which the plans of two unlike effects do not do the same.

    Whatever one of them needs more tells them apart in the other one's least state; what one of them
    makes or drops more, in a state that has it.
    """
    found = []
    for one, other in ((first, second), (second, first)):
        if one is None:
            continue
        least = one.least()
        found.append(least)
        more = [] if other is None else [name for name in other.made if name not in least.parties()]
        found.extend([State(least.people, least.things + [name]) for name in more])
        found.extend([least + [right] for right in one.gone])
    return found


def state_apart(first, second):
    """A state in which the plans of two effects do not do the same; None, if there is none."""
    for state in telling_states(first, second):
        if differ_in(first, second, state):
            return state
    return None


def judge_plans(policy, one, other):
    """A SamePlans, if two plans do the same, otherwise an OtherPlans."""
    first, second = both_effects(policy, one, other)
    if first == second:
        return SamePlans(first)
    return OtherPlans(state_apart(first, second))


def may_exchange(policy, plan, place):
    """Whether a plan does the same with the deed at a place and the next one exchanged."""
    found = effect(policy, plan)
    if not is_place(place, len(plan) - 1):
        raise BadNumber("this is no place of a deed with a next one")
    deeds = list(plan)
    turned = deeds[:place] + [deeds[place + 1], deeds[place]] + deeds[place + 2:]
    return plan_effect(policy, turned) == found


def leaned(policy, plan):
    """The list of a plan's deeds without those that it does not need, left out from the last one on."""
    found = effect(policy, plan)
    left = list(plan)
    for place in reversed(range(len(plan))):
        fewer = left[:place] + left[place + 1:]
        if plan_effect(policy, fewer) == found:
            left = fewer
    return left


def most_times(policy, plan):
    """The greatest number of times that a plan can be done, one behind the other; None without a greatest one.

    What hinders a plan the third time, a made name or a right that it drops, hinders it the second time.
    """
    if effect(policy, plan) is None:
        return 0
    twice = list(plan) + list(plan)
    return 1 if plan_effect(policy, twice) is None else None


def sure_to_come(policy, plan, right):
    """Whether a right can come up behind a plan in all states that allow it."""
    found = effect(policy, plan)
    if found is None:
        raise NeverDone("no state allows this plan")
    state = found.behind(found.least())
    if not is_right(right, state.people + state.things):
        raise BadRight("this is no right between the parties")
    check_size(state)
    return right in reach_of(policy.rules, state).since
