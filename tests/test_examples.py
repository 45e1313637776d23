"""Each example of the document's interface, as it stands there."""

import doctest
import unittest

EXAMPLES = {
    "states": """
>>> from handedkeys.states import State
>>> state = State(['ann', 'bob'], ['box'], [('ann', 'open', 'box')]) + [('bob', 'ask', 'ann')]
>>> [list(state), state.words('ann', 'box'), state.parties(), len(state - [('bob', 'ask', 'ann')])]
[[('ann', 'open', 'box'), ('bob', 'ask', 'ann')], ['open'], ['ann', 'bob', 'box'], 1]
""",
    "policies": """
>>> from handedkeys.policies import Policy
>>> policy = Policy([('make', ['use', 'own']), ('fetch', 'ask', [('use', 'use')]), ('raise', 'own', 'ask')])
>>> [policy[0], policy.made(), policy.words(), len(policy.without(0, 2)), policy + policy == policy]
[('make', ('own', 'use')), ('own', 'use'), ['ask', 'own', 'use'], 1, True]
""",
    "deeds": """
>>> from handedkeys.deeds import can, deeds_now, done
>>> from handedkeys.policies import Policy
>>> from handedkeys.states import State
>>> policy = Policy([('fetch', 'ask', [('open', 'open')]), ('make', ['own'])])
>>> state = State(['bob'], ['ann', 'box'], [('bob', 'ask', 'ann'), ('ann', 'open', 'box')])
>>> [list(deeds_now(policy, state)), list(done(policy, state, [(1, 'bob', 'cup'), ('drop', 'bob', 'ask', 'ann')])), can(policy, state, ('drop', 'ann', 'open', 'box'))]
[[(0, 'bob', 'ann', 'box', ('open', 'open'))], [('ann', 'open', 'box'), ('bob', 'own', 'cup')], False]
""",
    "closing": """
>>> from handedkeys.closing import all_that_come, judge_can
>>> from handedkeys.policies import Policy
>>> from handedkeys.states import State
>>> policy = Policy([('hand', 'give', [('use', 'use')]), ('make', ['give'])])
>>> state = State(['ann'], ['box', 'cup'], [('ann', 'give', 'box'), ('ann', 'use', 'cup')])
>>> found = judge_can(policy, state, ('box', 'use', 'cup'))
>>> [all_that_come(policy, state), found.shows(policy, state, ('box', 'use', 'cup')), bool(judge_can(policy, state, ('cup', 'use', 'box')))]
[[('ann', 'give', 'box'), ('ann', 'use', 'cup'), ('box', 'use', 'cup')], True, False]
""",
    "rounds": """
>>> from handedkeys.policies import Policy
>>> from handedkeys.rounds import at_once, last_round, rounds
>>> from handedkeys.states import State
>>> policy = Policy([('fetch', 'see', [('see', 'see')])])
>>> state = State(['ann', 'bob', 'cat'], ['box'], [('ann', 'see', 'bob'), ('bob', 'see', 'cat'), ('cat', 'see', 'box')])
>>> [rounds(policy, state), last_round(policy, state), len(at_once(policy, state, 1))]
[{('ann', 'see', 'bob'): 0, ('ann', 'see', 'box'): 2, ('ann', 'see', 'cat'): 1, ('bob', 'see', 'box'): 1, ('bob', 'see', 'cat'): 0, ('cat', 'see', 'box'): 0}, 2, 5]
""",
    "fewest": """
>>> from handedkeys.fewest import fewest_deeds, is_enough
>>> from handedkeys.policies import Policy
>>> from handedkeys.states import State
>>> policy = Policy([('fetch', 'see', [('see', 'see')])])
>>> state = State(['ann', 'bob'], ['cup', 'box'], [('ann', 'see', 'bob'), ('bob', 'see', 'cup'), ('cup', 'see', 'box')])
>>> found = fewest_deeds(policy, state, ('ann', 'see', 'box'))
>>> [len(found), is_enough(policy, state, ('ann', 'see', 'box'), found.deeds), len(fewest_deeds(policy, state, ('bob', 'see', 'cup')))]
[2, True, 0]
""",
    "following": """
>>> from handedkeys.following import are_alike, bare_state, judge_follows, lean
>>> from handedkeys.policies import Policy
>>> policy = Policy([('raise', 'own', 'use'), ('raise', 'own', 'lend'), ('raise', 'lend', 'use')])
>>> other = Policy([('raise', 'lend', 'use'), ('raise', 'own', 'lend')])
>>> [lean(policy) == Policy(policy.rules[1:]), are_alike(policy, other), judge_follows(policy, Policy(policy.rules[:2])).number, list(bare_state(policy, 2)[0]), bare_state(policy, 2)[1]]
[True, True, 2, [('ann', 'lend', 'box')], [('ann', 'use', 'box')]]
""",
    "frames": """
>>> from handedkeys.frames import Frame, frame_rights, judge_frame
>>> from handedkeys.policies import Policy
>>> policy = Policy([('fetch', 'trust', [('use', 'use')])])
>>> frame = Frame(['clerk'], ['desk'], [('clerk', 'trust', 'clerk'), ('clerk', 'use', 'desk')])
>>> [frame_rights(policy, frame), bool(judge_frame(policy, frame, ('clerk', 'use', 'clerk'), is_other=True)), frame.state({'desk': 2}).parties()]
[[('clerk', 'trust', 'clerk', False), ('clerk', 'trust', 'clerk', True), ('clerk', 'use', 'desk', False)], False, ['clerkza', 'deskza', 'deskzb']]
""",
    "helping": """
>>> from handedkeys.helping import is_theft, least_help, needed_help
>>> from handedkeys.policies import Policy
>>> from handedkeys.states import State
>>> policy = Policy([('hand', 'give', [('use', 'use')]), ('fetch', 'ask', [('use', 'use')])])
>>> state = State(['ann', 'bob', 'cat'], ['box'], [('ann', 'use', 'box'), ('ann', 'give', 'bob'), ('bob', 'give', 'cat'), ('cat', 'ask', 'bob')])
>>> [least_help(policy, state, ('cat', 'use', 'box')), needed_help(policy, state, ('cat', 'use', 'box')), is_theft(policy, state, ('cat', 'use', 'box'))]
[[('ann', 'bob'), ('ann', 'cat')], ['ann'], False]
""",
    "cutting": """
>>> from handedkeys.cutting import idle_rights, least_cuts, only_hopes
>>> from handedkeys.policies import Policy
>>> from handedkeys.states import State
>>> policy = Policy([('fetch', 'ask', [('use', 'use')])])
>>> state = State(['ann'], ['bob', 'cat', 'box'], [('ann', 'ask', 'bob'), ('ann', 'ask', 'cat'), ('bob', 'use', 'box'), ('cat', 'use', 'box')])
>>> [len(least_cuts(policy, state, ('ann', 'use', 'box'))), least_cuts(policy, state, ('ann', 'use', 'box'))[0], only_hopes(policy, state, ('ann', 'use', 'box')), idle_rights(policy, state)]
[4, (('ann', 'ask', 'bob'), ('ann', 'ask', 'cat')), [], []]
""",
    "likeness": """
>>> from handedkeys.likeness import classes, keeps, likenesses, rooms, wall
>>> from handedkeys.policies import Policy
>>> from handedkeys.states import State
>>> policy, state = Policy([('raise', 'own', 'use')]), State(['ann', 'bob'], ['box'], [('ann', 'own', 'box'), ('bob', 'own', 'box')])
>>> [classes(state), len(likenesses(state)), wall(policy, state, 'use', 'box'), rooms(policy, state, 'use')['ann'], keeps(policy, state, [('bob', 'use', 'box'), ('bob', 'use', 'ann')])]
[[['ann', 'bob'], ['box']], 2, ['ann', 'bob'], ['box'], [('bob', 'use', 'box')]]
""",
    "whys": """
>>> from handedkeys.policies import Policy
>>> from handedkeys.states import State
>>> from handedkeys.whys import by_them_alone, why
>>> policy = Policy([('raise', 'own', 'lend'), ('hand', 'lend', [('lend', 'use')])])
>>> state = State(['ann'], ['box'], [('ann', 'own', 'box')])
>>> found = why(policy, state, ('box', 'use', 'box'))
>>> [found.brings(), found.actors(), found.makers(), by_them_alone(policy, state, ['ann'])]
[[('ann', 'lend', 'box'), ('box', 'use', 'box')], ['ann'], [], [('ann', 'lend', 'box'), ('box', 'use', 'box')]]
""",
    "chances": """
>>> from handedkeys.chances import chance, count_help, weight_of
>>> from handedkeys.policies import Policy
>>> from handedkeys.states import State
>>> policy = Policy([('hand', 'give', [('use', 'use')])])
>>> state = State(['ann', 'bob'], ['box', 'cup'], [('ann', 'give', 'box'), ('bob', 'give', 'box'), ('ann', 'use', 'cup'), ('bob', 'use', 'cup')])
>>> right = ('box', 'use', 'cup')
>>> [count_help(policy, state, right), chance(policy, state, right, {'ann': (1, 2), 'bob': (1, 3)}), weight_of(policy, state, right, 'ann')]
[[0, 2, 1], (2, 3), 1]
""",
    "gifts": """
>>> from handedkeys.gifts import gifts_but, least_gifts
>>> from handedkeys.policies import Policy
>>> from handedkeys.states import State
>>> policy, state = Policy([('raise', 'own', 'use')]), State(['ann'], ['box'])
>>> [least_gifts(policy, state, ('ann', 'use', 'box')), gifts_but(policy, state, ('ann', 'use', 'box'), [('ann', 'own', 'box')])]
[[(('ann', 'own', 'box'),), (('ann', 'use', 'box'),)], [('ann', 'use', 'box')]]
""",
    "rolehelp": """
>>> from handedkeys.frames import Frame
>>> from handedkeys.policies import Policy
>>> from handedkeys.rolehelp import comes_by_roles, least_roles, needed_roles
>>> policy = Policy([('hand', 'give', [('use', 'use')]), ('fetch', 'ask', [('use', 'use')])])
>>> frame = Frame(['boss', 'clerk'], ['desk'], [('boss', 'give', 'clerk'), ('boss', 'use', 'desk'), ('clerk', 'ask', 'boss')])
>>> right = ('clerk', 'use', 'desk')
>>> [least_roles(policy, frame, right), needed_roles(policy, frame, right), comes_by_roles(policy, frame, right, ['clerk'])]
[[('boss',), ('clerk',)], [], True]
""",
    "rulesets": """
>>> from handedkeys.policies import Policy
>>> from handedkeys.rulesets import compared, fewest_rules, least_rules, missing, shared
>>> policy = Policy([('raise', 'own', 'use'), ('raise', 'own', 'lend'), ('raise', 'lend', 'use')])
>>> other = Policy([('raise', 'own', 'use'), ('raise', 'lend', 'use')])
>>> [least_rules(policy), fewest_rules(policy), missing(policy, other), shared(policy, other) == other, compared(policy, other)]
[[(1, 2)], 2, [(1, None)], True, 'more']
""",
    "worths": """
>>> from handedkeys.policies import Policy
>>> from handedkeys.worths import least_words, same_words, strongest, together, worth
>>> policy = Policy([('raise', 'own', 'use'), ('raise', 'use', 'see'), ('raise', 'see', 'use'), ('meet', 'see', 'key', 'own')])
>>> [worth(policy, 'own'), same_words(policy), strongest(policy), together(policy, ['key', 'use']), least_words(policy, 'own')]
[['own', 'see', 'use'], [['key'], ['own'], ['see', 'use']], ['key', 'own'], ['key', 'own', 'see', 'use'], [('own',), ('key', 'see'), ('key', 'use')]]
""",
    "histories": """
>>> from handedkeys.histories import count_orders, count_states, number_of_order, order_with
>>> from handedkeys.policies import Policy
>>> from handedkeys.states import State
>>> policy, state = Policy([('raise', 'own', 'lend'), ('raise', 'own', 'use'), ('raise', 'use', 'see')]), State(['ann'], ['box'], [('ann', 'own', 'box')])
>>> [count_orders(policy, state), count_states(policy, state), [word for one, word, other in order_with(policy, state, 1)], number_of_order(policy, state, [])]
[3, 6, ['use', 'lend', 'see'], None]
""",
    "mends": """
>>> from handedkeys.mends import at_odds, least_mends, least_taken, least_unwilling
>>> from handedkeys.policies import Policy
>>> from handedkeys.states import State
>>> policy = Policy([('raise', 'own', 'use'), ('raise', 'own', 'lend')])
>>> state, use = State(['ann', 'bob'], ['box'], [('ann', 'own', 'box'), ('bob', 'own', 'box')]), ('bob', 'use', 'box')
>>> [least_mends(policy, state, [('ann', 'use', 'box')], [use]), least_taken(policy, state, [('ann', 'lend', 'box')], [use]), least_unwilling(policy, state, [], [use]), at_odds(policy, state, [('ann', 'own', 'bob')], [('ann', 'use', 'bob')])]
[[(('bob', 'own', 'box'),)], [(0,)], [('bob',)], [('ann', 'own', 'bob')]]
""",
    "leanstates": r"""
>>> from handedkeys.leanstates import compared_states, lean_state, least_states, united
>>> from handedkeys.policies import Policy
>>> from handedkeys.states import State
>>> policy = Policy([('raise', 'own', 'use'), ('meet', 'key', 'use', 'open')])
>>> state, other = State(['ann'], ['box'], [('ann', 'own', 'box'), ('ann', 'use', 'box')]), State(['ann'], ['box'], [('ann', 'key', 'box')])
>>> [list(lean_state(policy, state)), least_states(policy, state), compared_states(policy, state, lean_state(policy, state)), united(policy, state, other)]
[[('ann', 'own', 'box')], [(('ann', 'own', 'box'),)], 'same', [('ann', 'open', 'box')]]
""",
    "plans 0": r"""
>>> from handedkeys.plans import effect, judge_plans, least_state, leaned, most_times
>>> from handedkeys.policies import Policy
>>> policy = Policy([("fetch", "take", [("read", "read")]), ("make", ["take", "read"])])
>>> plan = [(1, "ann", "box"), (0, "ann", "bob", "file", ("read", "read")), ("drop", "ann", "take", "bob")]
>>> found = effect(policy, plan)
>>> [found.people, found.needs, found.gone, found.made, least_state(policy, plan).things]
[['ann'], [('ann', 'take', 'bob'), ('bob', 'read', 'file')], [('ann', 'take', 'bob')], ['box'], ['bob', 'file']]
""",
    "plans 1": r"""
>>> from handedkeys.plans import effect, judge_plans, least_state, leaned, most_times
>>> from handedkeys.policies import Policy
>>> policy = Policy([("fetch", "take", [("read", "read")]), ("make", ["take", "read"])])
>>> plan = [(1, "ann", "box"), (0, "ann", "bob", "file", ("read", "read")), ("drop", "ann", "take", "bob")]
>>> found = effect(policy, plan)
>>> [bool(judge_plans(policy, plan, plan[::-1])), most_times(policy, plan[1:]), len(leaned(policy, plan[:2] + plan[1:2]))]
[False, 1, 2]
""",
    "keytexts": r"""
>>> from handedkeys.keytexts import read_plan, read_policy, read_state, write_plan, write_policy, write_state
>>> policy = read_policy('fetch by take: read to read # and no more\nmake take')
>>> [write_policy(policy), write_state(read_state('things: f\npeople: b,a\na take b')), write_plan(policy, read_plan(policy, '0:a b f read to read'))]
['fetch by take: read to read\nmake take\n', 'people: a, b\nthings: f\na take b\n', '0: a b f read to read\n']
""",
    "keyrooms": r"""
>>> from handedkeys.keyrooms import Room
>>> from handedkeys.policies import Policy
>>> from handedkeys.states import State
>>> room = Room(Policy([("fetch", "take", [("read", "read")])]), State(["ann", "bob"], ["file"], [("bob", "read", "file")]))
>>> [room.promise([("ann", "read", "file")]), room.grant([("ann", "take", "bob")]), room.harmless([("bob", "take", "ann")]), len(room)]
[True, False, [('bob', 'take', 'ann')], 1]
""",
    "mixing": r"""
>>> from handedkeys.mixing import judge_mixings, mixed, never_mixed
>>> from handedkeys.policies import Policy
>>> policy = Policy([("raise", "own", "read")])
>>> one, other = [(0, "ann", "file")], [("drop", "ann", "own", "file")]
>>> [bool(judge_mixings(policy, one, other)), never_mixed(policy, one, other), mixed(policy, one, other, [1, 0])]
[False, [(1, 0)], [('drop', 'ann', 'own', 'file'), (0, 'ann', 'file')]]
""",
    "templates": r"""
>>> from handedkeys.policies import Policy
>>> from handedkeys.templates import Template, judge_templates, ways
>>> policy = Policy([("fetch", "take", [("read", "read")])])
>>> one = Template(policy, ["x", "y"], [(0, "ann", "x", "f", ("read", "read")), (0, "ann", "y", "f", ("read", "read"))])
>>> other = Template(policy, ["x", "y"], one.fill(["y", "x"]))
>>> [one.fill(["bob", "ann"])[1], len(ways(one)), ways(one)[:3], bool(judge_templates(one, other)), one.fixed()]
[(0, 'ann', 'ann', 'f', ('read', 'read')), 10, [('ann', 'ann'), ('ann', 'f'), ('ann', 'aa')], False, ['ann', 'f']]
""",
    "books": r"""
>>> from handedkeys.books import read_book
>>> text = 'module lending(own, lend)\nraise own to use\nhand by lend: use to use\nend\npolicy office\nuse lending(keep, give)\nmake give\nend\nstate home\npeople: ann\nthings: box\nann keep box\nend'
>>> book = read_book(text)
>>> [book.names(), list(book.policy('office')), list(book.state('home')), len(book)]
[['home', 'lending', 'office'], [('raise', 'keep', 'use'), ('hand', 'give', (('use', 'use'),)), ('make', ('give',))], [('ann', 'keep', 'box')], 0]
""",
    "bookwriting": r"""
>>> from handedkeys.books import read_book
>>> from handedkeys.bookwriting import write_book
>>> book = read_book('policy a # one\nfetch by w: s to s,r to r\nend\npolicy b\nend\nclaim z: a does b')
>>> write_book(book)
'policy a\nfetch by w: r to r, s to s\nend\npolicy b\nend\nclaim z: a does b\n'
""",
    "claims": r"""
>>> from handedkeys.books import read_book
>>> from handedkeys.claims import fewest_run, judge_book, judge_claim
>>> text = 'policy office\nraise keep to use\nhand by give: use to use\nend\npolicy tight\nraise keep to use\nend\nstate home\npeople: ann, bob\nthings: box\nann keep box\nann give bob\nend\n'
>>> book = read_book(text + 'claim one: office never home bob use box\nclaim two: office does tight\nclaim three: tight never home bob use box')
>>> [judge_book(book), fewest_run(book, 'one').deeds, judge_claim(book, 'two').shows(book, 'two'), fewest_run(book, 'three')]
[{'one': False, 'three': True, 'two': True}, [(0, 'ann', 'box'), (1, 'ann', 'bob', 'box', ('use', 'use'))], True, None]
""",
    "bookchanges": r"""
>>> from handedkeys.bookchanges import broken_by, claim_mends, claims_left, needless_lines, without_lines
>>> from handedkeys.books import read_book
>>> text = 'policy office\nraise keep to use\nhand by give: use to use\nraise keep to use\nend\nstate home\npeople: ann, bob\nthings: box\nann keep box\nann give bob\nend\n'
>>> book = read_book(text + 'claim one: office never home bob use box\nclaim two: office can home ann use box')
>>> late = without_lines(book, [('policy', 'office', 1)])
>>> [claim_mends(book, 'one'), needless_lines(book), broken_by(late, book), claims_left(late)]
[[(('policy', 'office', 1),), (('state', 'home', 0),)], [('policy', 'office', 0), ('policy', 'office', 2)], ['one'], ['one']]
""",
}


class ExamplesTest(unittest.TestCase):

    def test_each_example_as_it_stands(self):
        for name, text in EXAMPLES.items():
            example = doctest.DocTestParser().get_doctest(text, {}, name, None, 0)
            printed = []
            result = doctest.DocTestRunner().run(example, out=printed.append)
            self.assertEqual(result.failed, 0, "".join(printed))
            self.assertGreater(result.attempted, 2)


if __name__ == "__main__":
    unittest.main()
