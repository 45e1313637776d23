"""What the document promises of all modules together: the interface, and that nothing given is kept or changed."""

import copy
import importlib
import unittest

from handedkeys.books import read_book
from handedkeys.closing import Can, Never, judge_can
from handedkeys.fewest import Fewest
from handedkeys.following import Does, Lacks
from handedkeys.frames import Ever, Frame, NoNumber
from handedkeys.keyrooms import Room
from handedkeys.claims import Verdict, judge_claim
from handedkeys.mixing import Calm, Races
from handedkeys.plans import Effect, OtherPlans, SamePlans, effect
from handedkeys.policies import Policy
from handedkeys.states import State
from handedkeys.templates import AlwaysSame, SometimesOther, Template
from handedkeys.whys import Why

ERRORS = "RightError BadState BadFrame BadPolicy BadRight BadParty BadDeed BadNumber BadText NeverComes NeverDone TooLarge NothingDone"
INTERFACE = {
    "errors": (ERRORS, {}),
    "states": ("", {"State": "parties words renamed __len__ __contains__ __iter__ __eq__ __add__ __sub__"}),
    "policies": ("", {"Policy": "without made words __len__ __iter__ __eq__ __add__ __getitem__"}),
    "deeds": ("can done deeds_now", {}),
    "closing": ("judge_can can_come all_that_come behind_all", {"Can": "shows __bool__ __eq__", "Never": "shows __bool__ __eq__"}),
    "rounds": ("rounds round_for last_round at_once", {}),
    "fewest": ("fewest_deeds is_enough", {"Fewest": "shows __len__ __bool__ __eq__"}),
    "following": ("bare_state judge_follows are_alike needless lean joined", {"Does": "shows __bool__ __eq__", "Lacks": "shows __bool__ __eq__"}),
    "frames": ("judge_frame frame_rights closed_frame", {"Frame": "roles members state __len__ __eq__", "Ever": "shows __bool__ __eq__", "NoNumber": "shows __bool__ __eq__"}),
    "helping": ("comes_by least_help needed_help is_theft alone", {}),
    "cutting": ("least_cuts only_hopes idle_rights what_is_lost", {}),
    "likeness": ("likenesses alike classes wall rooms keeps can_be_added", {}),
    "whys": ("why lasting by_them_alone", {"Why": "shows brings actors makers __len__ __bool__ __eq__"}),
    "chances": ("enough_sets count_help chance weight_of", {}),
    "gifts": ("least_gifts gifts_but", {}),
    "rolehelp": ("comes_by_roles least_roles needed_roles", {}),
    "rulesets": ("least_rules fewest_rules missing shared compared", {}),
    "worths": ("worth is_worth together same_words strongest least_words", {}),
    "histories": ("count_orders order_with number_of_order count_states", {}),
    "mends": ("least_mends least_taken least_unwilling at_odds", {}),
    "leanstates": ("compared_states common_rights united lean_state least_states", {}),
    "plans": ("effect least_state judge_plans may_exchange leaned most_times sure_to_come",
              {"Effect": "parties allows behind least __eq__", "SamePlans": "shows __bool__ __eq__", "OtherPlans": "shows __bool__ __eq__"}),
    "keytexts": ("read_policy read_state read_plan write_policy write_state write_plan", {}),
    "keyrooms": ("", {"Room": "do grant take_away promise release harmless promises evidence undo trial attempt __len__ __contains__"}),
    "mixing": ("mixed mixings judge_mixings never_mixed", {"Calm": "shows __bool__ __eq__", "Races": "shows __bool__ __eq__"}),
    "templates": ("ways judge_templates", {"Template": "fill fixed __eq__", "AlwaysSame": "shows __bool__ __eq__", "SometimesOther": "shows __bool__ __eq__"}),
    "books": ("read_book BadBook BadName", {"Book": "names policy state frame __len__ __eq__"}),
    "bookwriting": ("write_book", {}),
    "claims": ("judge_claim judge_book broken fewest_run", {"Verdict": "shows __bool__ __eq__"}),
    "bookchanges": ("book_lines without_lines flat judge_change broken_by claim_mends needless_lines claims_left used_modules", {}),
}
RULES = [("fetch", "take", [("read", "read"), ("own", "own")]), ("hand", "give", [("read", "read")]), ("raise", "own", "read"), ("make", ["own", "give"])]
RIGHTS = [("ann", "take", "bob"), ("bob", "own", "file"), ("bob", "give", "cat")]
READ, NEVER = ("ann", "read", "file"), ("cat", "take", "ann")
PLAN, OTHER = [(0, "ann", "bob", "file", ("own", "own")), (2, "ann", "file")], [("drop", "bob", "own", "file")]
TEXT = """module m(x)
raise x to read
end
policy office
use m(own)
raise own to read
end
policy bare
end
state home
people: ann
things: box
ann own box
ann read ann
end
frame staff
people: boss
boss own boss
end
claim broken: office never home ann read box
claim keeps: office can home ann read ann
claim frames: office can staff boss read other boss
claim doth: office does bare
"""


def things():
    """New values for all that calls are given."""
    policy, state = Policy(RULES), State(["ann", "bob"], ["cat", "file"], RIGHTS)
    return {"policy": policy, "other": Policy(RULES[:3]), "state": state, "less": State(["ann", "bob"], ["cat", "file"], RIGHTS[:2]), "right": READ,
            "frame": Frame(["boss"], ["desk"], [("boss", "own", "desk")]), "asked": ("boss", "read", "desk"), "book": read_book(TEXT), "late": read_book(TEXT.replace("ann own box\n", "")),
            "deeds": list(PLAN), "plan": list(PLAN), "drops": list(OTHER), "names": ["ann"], "rights": [RIGHTS[1], RIGHTS[1]], "never": [NEVER], "chances": {"ann": (1, 2), "bob": (1, 3)},
            "order": [("ann", "own", "file")], "one": Template(policy, ["x"], [(2, "ann", "x"), OTHER[0]]), "two": Template(policy, ["x"], [OTHER[0], (2, "ann", "x")]),
            "choice": [0, 1, 0], "lines": [("state", "home", 0), ("module", "m", 0)], "words": ["own", "own"], "roles": ["boss"], "small": State(["ann"], ["box"], [("ann", "own", "box")])}


CALLS = """deeds.can policy state =0:deed
deeds.done policy state deeds
deeds.deeds_now policy state
closing.judge_can policy state right
closing.judge_can policy state =never:right
closing.can_come policy state right
closing.all_that_come policy state
closing.behind_all policy state deeds
rounds.rounds policy state
rounds.round_for policy state right
rounds.last_round policy state
rounds.at_once policy state =number
fewest.fewest_deeds other state right
fewest.is_enough policy state right deeds
following.bare_state policy =number
following.judge_follows policy policy
following.judge_follows policy other
following.are_alike policy other
following.needless policy
following.lean policy
following.joined other policy
frames.judge_frame policy frame asked
frames.frame_rights policy frame
frames.closed_frame policy frame
helping.comes_by policy state right names
helping.least_help policy state right
helping.needed_help policy state right
helping.is_theft policy state right
helping.alone policy state =name
cutting.least_cuts policy state right
cutting.only_hopes policy state right
cutting.idle_rights policy state
cutting.what_is_lost policy state rights
likeness.likenesses state
likeness.alike state =name =name
likeness.classes state
likeness.wall policy state =word =name
likeness.rooms policy state =word
likeness.keeps policy state rights
likeness.can_be_added policy state never
whys.why policy state right
whys.lasting policy state names
whys.by_them_alone policy state names
chances.enough_sets policy state right
chances.count_help policy state right
chances.chance policy state right chances
chances.weight_of policy state right =name
gifts.least_gifts policy small =boxed
gifts.gifts_but policy small =boxed =none
rolehelp.comes_by_roles policy frame asked roles
rolehelp.least_roles policy frame asked
rolehelp.needed_roles policy frame asked
rulesets.least_rules policy
rulesets.fewest_rules policy
rulesets.missing policy other
rulesets.shared policy other
rulesets.compared policy other
worths.worth policy =word
worths.is_worth policy =word =word
worths.together policy words
worths.same_words policy
worths.strongest policy
worths.least_words policy =word
histories.count_orders other small
histories.order_with other small =nought
histories.number_of_order other small order
histories.count_states other small
mends.least_mends policy state rights never
mends.least_taken policy state rights never
mends.least_unwilling policy state rights never
mends.at_odds policy state rights never
leanstates.compared_states policy state less
leanstates.common_rights policy state less
leanstates.united policy state less
leanstates.lean_state policy state
leanstates.least_states policy state
plans.effect policy plan
plans.least_state policy plan
plans.judge_plans policy plan plan
plans.judge_plans policy plan drops
plans.may_exchange policy plan =nought
plans.leaned policy plan
plans.most_times policy plan
plans.sure_to_come policy plan right
keytexts.write_policy policy
keytexts.write_state state
keytexts.write_plan policy plan
mixing.mixed policy plan drops choice
mixing.mixings policy plan drops
mixing.judge_mixings policy plan drops
mixing.judge_mixings policy plan =none
mixing.never_mixed policy plan drops
templates.ways one two
templates.judge_templates one two
templates.judge_templates one one
bookwriting.write_book book
claims.judge_claim book =broken
claims.judge_claim book =doth
claims.judge_book book
claims.broken book
claims.fewest_run book =broken
bookchanges.book_lines book
bookchanges.without_lines book lines
bookchanges.flat book
bookchanges.judge_change book late
bookchanges.broken_by book late
bookchanges.claim_mends book =broken
bookchanges.needless_lines book
bookchanges.claims_left book
bookchanges.used_modules book =office"""
GIVEN = {"=0:deed": PLAN[0], "=never:right": NEVER, "=number": 2, "=nought": 0, "=name": "ann", "=word": "own", "=boxed": ("box", "read", "ann"), "=none": [], "=broken": "broken", "=doth": "doth", "=office": "office"}


def shown(value):
    """All that a value holds, as plain lists and tuples."""
    if isinstance(value, (list, tuple)):
        return [type(value).__name__] + [shown(part) for part in value]
    if isinstance(value, dict):
        return ["dict"] + [(shown(key), shown(part)) for key, part in value.items()]
    if hasattr(value, "__dict__"):
        return [type(value).__name__] + [(name, shown(part)) for name, part in sorted(vars(value).items())]
    return value


def spoil(value):
    """Empty all lists and dicts in a value."""
    if isinstance(value, (list, tuple)):
        for part in value:
            spoil(part)
    if isinstance(value, dict):
        for part in value.values():
            spoil(part)
    if isinstance(value, (list, dict)):
        value.clear()
    elif hasattr(value, "__dict__"):
        for part in vars(value).values():
            spoil(part)


def evidences():
    """Evidence, what it shows, and which of two answers it is."""
    given = things()
    policy, state, book = given["policy"], given["state"], given["book"]
    found = [(judge_can(policy, state, READ), (policy, state, READ), True), (judge_can(policy, state, NEVER), (policy, state, NEVER), False)]
    for name, arguments, truth in (("fewest.fewest_deeds", (given["other"], state, READ), True), ("following.judge_follows", (given["other"], policy), True), ("following.judge_follows", (policy, given["other"]), False),
                                   ("frames.judge_frame", (policy, given["frame"], ("boss", "read", "desk")), True), ("frames.judge_frame", (policy, given["frame"], ("desk", "read", "boss")), False),
                                   ("whys.why", (policy, state, READ), True), ("plans.judge_plans", (policy, PLAN, PLAN + PLAN[1:]), True), ("plans.judge_plans", (policy, PLAN, OTHER), False),
                                   ("mixing.judge_mixings", (policy, PLAN, []), True), ("mixing.judge_mixings", (policy, PLAN, OTHER), False), ("templates.judge_templates", (given["one"], given["one"]), True),
                                   ("templates.judge_templates", (Template(policy, ["x"], PLAN), Template(policy, ["x"], PLAN[:1])), False), ("claims.judge_claim", (book, "doth"), True), ("claims.judge_claim", (book, "broken"), False)):
        paper = function(name)(*arguments)
        found.append((paper, (book, "doth" if truth else "broken") if name == "claims.judge_claim" else arguments, truth))
    return found


def function(name):
    """A function of the interface by the names of its module and its own."""
    module, own = name.split(".")
    return getattr(importlib.import_module("handedkeys." + module), own)


class InterfaceTest(unittest.TestCase):

    def test_all_is_defined_in_its_file(self):
        for name, (plain, classes) in INTERFACE.items():
            module = importlib.import_module("handedkeys." + name)
            for own in plain.split() + list(classes):
                self.assertEqual(getattr(module, own).__module__, "handedkeys." + name)
            for own, methods in classes.items():
                for method in methods.split():
                    self.assertIn(method, vars(getattr(module, own)), (name, own))

    def test_direct_subclasses(self):
        books, errors = (importlib.import_module("handedkeys." + name) for name in ("books", "errors"))
        for kind in [getattr(errors, name) for name in ERRORS.split()[1:]] + [books.BadBook, books.BadName]:
            self.assertEqual(kind.__bases__, (errors.RightError,))
        self.assertEqual(errors.RightError.__bases__, (ValueError,))

    def test_attributes_of_new_objects(self):
        state, effects = State(["ann"], []), Effect([], [], [], [], [])
        for made, names in ((Can([]), "deeds"), (Never([]), "rights"), (Fewest([]), "deeds"), (Does({}), "ways"), (Lacks(0, None), "number pair"), (Ever([]), "deeds"), (NoNumber([]), "rights"), (Why([]), "steps"),
                            (effects, "people needs sure gone made"), (SamePlans(effects), "effect"), (OtherPlans(state), "state"), (Calm(None), "effect"), (Races((), ()), "first second"), (AlwaysSame(1), "number"),
                            (SometimesOther([], state), "parties state"), (Template(Policy([]), [], []), "policy names plan"), (Room(Policy([]), state), "policy state"), (Verdict(True, []), "holds papers")):
            for name in names.split():
                self.assertIn(name, vars(made))


class FunctionsTest(unittest.TestCase):

    def test_all_functions_are_called_here(self):
        called = {line.split()[0] for line in CALLS.split("\n")}
        told = {module + "." + name for module, (plain, _) in INTERFACE.items() for name in plain.split() if name[0].islower() and not name.startswith("read_")}
        self.assertEqual(told, called)

    def test_nothing_is_changed_or_kept_and_what_is_returned_is_new(self):
        for line in CALLS.split("\n"):
            name, *told = line.split()
            given = things()
            arguments = [GIVEN[one] if one in GIVEN else given[one] for one in told]
            before = shown(arguments)
            results = [function(name)(*arguments) for _ in range(2)]
            results = [list(found) for found in results] if name == "deeds.deeds_now" else results
            self.assertEqual(shown(arguments), before, line)
            first = shown(results[0])
            self.assertEqual(shown(results[1]), first, line)
            spoil(results[1])
            self.assertEqual(shown(arguments), before, line)
            self.assertEqual(shown(results[0]), first, line)
            if name != "deeds.deeds_now":
                self.assertEqual(shown(function(name)(*arguments)), first, line)
            spoil([one for one in arguments if isinstance(one, (list, dict)) or hasattr(one, "__dict__")])
            self.assertEqual(shown(results[0]), first, line)

    def test_tuples_may_be_given_for_lists(self):
        for line in CALLS.split("\n"):
            name, *told = line.split()
            given = things()
            plain = [GIVEN[one] if one in GIVEN else given[one] for one in told]
            if any(isinstance(one, list) for one in plain):
                other = [tuple(one) if isinstance(one, list) else one for one in plain]
                self.assertEqual(shown(function(name)(*other)), shown(function(name)(*plain)), line)


class EvidenceTest(unittest.TestCase):

    def test_all_kinds(self):
        kinds = {type(paper) for paper, _, _ in evidences()}
        self.assertEqual({kind.__name__ for kind in kinds}, {"Can", "Never", "Fewest", "Does", "Lacks", "Ever", "NoNumber", "Why", "SamePlans", "OtherPlans", "Calm", "Races", "AlwaysSame", "SometimesOther", "Verdict"})

    def test_shown_and_which_answer(self):
        for paper, arguments, truth in evidences():
            self.assertIs(paper.shows(*arguments), True)
            self.assertIs(bool(paper), truth)
            before = shown(list(arguments))
            kept = shown(paper)
            paper.shows(*arguments)
            self.assertEqual([shown(list(arguments)), shown(paper)], [before, kept])

    def test_equal(self):
        for paper, _, _ in evidences():
            twin = copy.deepcopy(paper)
            self.assertTrue(paper == twin and not paper != twin)
            self.assertFalse(paper == None or paper == 5)  # noqa: E711
            for other, _, _ in evidences():
                self.assertEqual(type(other) is type(paper) and shown(other) == shown(paper), paper == other)

    def test_tuples_in_the_place_of_lists(self):
        for paper, arguments, _ in evidences():
            twin = copy.deepcopy(paper)
            for name, part in vars(paper).items():
                if isinstance(part, (list, tuple)) and not isinstance(paper, Lacks):
                    setattr(twin, name, tuple(part) if isinstance(part, list) else list(part))
            self.assertTrue(twin == paper and twin.shows(*arguments), type(paper))

    def test_another_length(self):
        for paper, arguments, _ in evidences():
            for name, part in vars(paper).items():
                bent = copy.deepcopy(paper)
                if isinstance(part, (list, tuple)) and len(part) > 0 and not isinstance(paper, Lacks):
                    setattr(bent, name, list(part[:-1]))
                    self.assertIs(bent.shows(*arguments), False, (type(paper), name))
                    self.assertFalse(bent == paper)
                    setattr(bent, name, [])
                    self.assertIs(bent.shows(*arguments), False, (type(paper), name))
                if isinstance(part, dict):
                    setattr(bent, name, dict(list(part.items())[1:]))
                    self.assertIs(bent.shows(*arguments), False, type(paper))
                    setattr(bent, name, {**part, (7, None): []})
                    self.assertIs(bent.shows(*arguments), False, type(paper))
        for paper, arguments, _ in evidences():
            if isinstance(paper, (Fewest, Why, Races, SometimesOther, Verdict)):
                for name, part in vars(paper).items():
                    if isinstance(part, (list, tuple)):
                        bent = copy.deepcopy(paper)
                        setattr(bent, name, list(part) + [part[-1]])
                        self.assertIs(bent.shows(*arguments), False, (type(paper), name))

    def test_what_is_given_is_copied(self):
        for paper, _, _ in evidences():
            given = [copy.deepcopy(part) for part in vars(paper).values()]
            twin = type(paper)(*given)
            self.assertTrue(twin == paper)
            spoil(given)
            self.assertTrue(twin == paper, type(paper))
            spoil(list(vars(twin).values()))
            self.assertEqual(shown(paper), shown(copy.deepcopy(paper)))


class ObjectsTest(unittest.TestCase):

    def test_what_methods_return_is_new(self):
        state, policy = things()["state"], Policy(RULES)
        frame, book = things()["frame"], things()["book"]
        room = Room(policy, state)
        room.promise([NEVER])
        found = effect(policy, PLAN)
        template = Template(policy, ["x"], PLAN)
        verdict = judge_claim(book, "broken")
        for owner, call in ((state, lambda: [state.parties(), state.words("ann", "bob"), state.renamed({}), state + [], state - []]), (policy, lambda: [policy.words(), policy.without(), policy + policy]),
                            (frame, lambda: [frame.roles(), frame.members("boss", 2), frame.state()]), (room, lambda: [room.promises(), room.evidence(), room.harmless([READ])]),
                            (found, lambda: [found.parties(), found.least(), found.behind(found.least())]), (template, lambda: [template.fill(["bob"]), template.fixed()]),
                            (book, lambda: [book.names(), book.policy("office"), book.state("home"), book.frame("staff")]), (verdict, lambda: [verdict.shows(book, "broken")])):
            before, told = shown(owner), shown(call())
            spoil(call())
            self.assertEqual([shown(owner), shown(call())], [before, told])

    def test_errors_leave_all_as_it_was(self):
        given = things()
        before = shown(given)
        for line in CALLS.split("\n"):
            name, *told = line.split()
            arguments = [GIVEN[one] if one in GIVEN else given[one] for one in told]
            for place in range(2 if name in ("deeds.can", "histories.number_of_order") else len(arguments)):
                wrong = arguments[:place] + [None] + arguments[place + 1:]
                with self.assertRaises(function("errors.RightError"), msg=line):
                    list(function(name)(*wrong)) if name == "deeds.deeds_now" else function(name)(*wrong)
        self.assertEqual(shown(given), before)


if __name__ == "__main__":
    unittest.main()
