"""Two plans mixed deed by deed, in all ways."""

from handedkeys.checks import check_plan
from handedkeys.errors import BadNumber, TooLarge
from handedkeys.forms import is_integer, is_row
from handedkeys.plans import copied_effect, effect_of, plan_effect
from handedkeys.sketches import Sketch

MOST_DEEDS = 8


class Calm:
    """The one effect that two plans have, however they are mixed; None, if no state allows them so."""

    def __init__(self, effect):
        self.effect = copied_effect(effect)

    def shows(self, policy, one, other):
        """Whether all mixed plans have this effect."""
        check_both_plans(policy, one, other)
        found = unlike_effects(policy, one, other)
        return len(found) == 1 and found[0][0] == self.effect

    def __bool__(self):
        return True

    def __eq__(self, other):
        return isinstance(other, Calm) and self.effect == other.effect


class Races:
    """Two choices by which two plans are mixed to plans that have unlike effects."""

    def __init__(self, first, second):
        self.first = tuple(first)
        self.second = tuple(second)

    def shows(self, policy, one, other):
        """Whether both are choices, and their mixed plans have unlike effects."""
        check_both_plans(policy, one, other)
        if not is_choice(self.first, one, other) or not is_choice(self.second, one, other):
            return False
        first = plan_effect(policy, by_choice(one, other, self.first))
        return first != plan_effect(policy, by_choice(one, other, self.second))

    def __bool__(self):
        return False

    def __eq__(self, other):
        return (isinstance(other, Races) and tuple(self.first) == tuple(other.first)
                and tuple(self.second) == tuple(other.second))


def check_both_plans(policy, one, other):
    """Refuse what is no policy, no two plans, and plans of too many deeds."""
    check_plan(policy, one)
    check_plan(policy, other)
    if len(one) > MOST_DEEDS or len(other) > MOST_DEEDS:
        raise TooLarge("a plan has too many deeds")


def is_choice(choice, one, other):
    """Whether a value tells a 0 for each deed of one plan, and a 1 for each of the other one."""
    if not is_row(choice) or len(choice) != len(one) + len(other):
        return False
    return all([is_integer(turn) and turn in (0, 1) for turn in choice]) and sum(choice) == len(other)


def by_choice(one, other, choice):
    """The list of the deeds of two plans, mixed by a choice."""
    ahead = [list(one), list(other)]
    deeds = []
    for turn in choice:
        deeds.append(ahead[turn][0])
        ahead[turn] = ahead[turn][1:]
    return deeds


def mixed(policy, one, other, choice):
    """The plan of the deeds of two plans, mixed by a choice."""
    check_both_plans(policy, one, other)
    if not is_choice(choice, one, other):
        raise BadNumber("this is no choice for these plans")
    return by_choice(one, other, choice)


def all_mixed(policy, one, other):
    """The list of the pairs of all choices, ascending, and the sketches of the mixed plans.

    None stands in the place of a sketch, if no state allows the plan. Choices that begin alike are
    followed up together, so that each beginning is sketched once.
    """
    layer = [((), Sketch(policy.rules))]
    for many in range(len(one) + len(other)):
        following = []
        for choice, sketch in list(layer):
            turned = sum(choice)
            if many - turned < len(one):
                following.append((choice + (0,), followed(sketch, one[many - turned])))
            if turned < len(other):
                following.append((choice + (1,), followed(sketch, other[turned])))
        layer = following
    return layer


def followed(sketch, deed):
    """A new sketch with a deed more; None, if no state allows it."""
    if sketch is None:
        return None
    later = sketch.copied()
    return later if later.follow(deed) else None


def effect_key(effect):
    """What tells an effect from all others, as a key; None without one."""
    if effect is None:
        return None
    return (tuple(effect.people), tuple(effect.needs), tuple(effect.sure), tuple(effect.gone), tuple(effect.made))


def unlike_effects(policy, one, other):
    """The list of the different effects of all mixed plans, each with the first choice that leads to it."""
    found = {}
    for choice, sketch in all_mixed(policy, one, other):
        effect = effect_of(sketch)
        found.setdefault(effect_key(effect), (effect, choice))
    return list(found.values())


def mixings(policy, one, other):
    """The list of pairs of the different effects of all mixed plans and a choice that leads to each."""
    check_both_plans(policy, one, other)
    return unlike_effects(policy, one, other)


def judge_mixings(policy, one, other):
    """A Calm, if two plans do the same however they are mixed, otherwise a Races."""
    check_both_plans(policy, one, other)
    found = unlike_effects(policy, one, other)
    if len(found) == 1:
        return Calm(found[0][0])
    return Races(found[0][1], found[1][1])


def never_mixed(policy, one, other):
    """The ascending list of the choices by which two plans are mixed to one that no state allows."""
    check_both_plans(policy, one, other)
    return [choice for choice, sketch in all_mixed(policy, one, other) if sketch is None]
