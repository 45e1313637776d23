"""Each example of the document's interface, as it stands there."""

import doctest
import unittest

EXAMPLES = {
    "states": """
>>> from handedkeys.states import State
>>> state = State(['ann', 'bob'], ['box'], [('ann', 'open', 'box')]) + [('bob', 'ask', 'ann')]
>>> [list(state), state.words('ann', 'box'), state.parties(), len(state - [('bob', 'ask', 'ann')])]
[[('ann', 'open', 'box'), ('bob', 'ask', 'ann')], ['open'], ['ann', 'bob', 'box'], 1]
""",
    "policies": """
>>> from handedkeys.policies import Policy
>>> policy = Policy([('make', ['use', 'own']), ('fetch', 'ask', [('use', 'use')]), ('raise', 'own', 'ask')])
>>> [policy[0], policy.made(), policy.words(), len(policy.without(0, 2)), policy + policy == policy]
[('make', ('own', 'use')), ('own', 'use'), ['ask', 'own', 'use'], 1, True]
""",
    "deeds": """
>>> from handedkeys.deeds import can, deeds_now, done
>>> from handedkeys.policies import Policy
>>> from handedkeys.states import State
>>> policy = Policy([('fetch', 'ask', [('open', 'open')]), ('make', ['own'])])
>>> state = State(['bob'], ['ann', 'box'], [('bob', 'ask', 'ann'), ('ann', 'open', 'box')])
>>> [list(deeds_now(policy, state)), list(done(policy, state, [(1, 'bob', 'cup'), ('drop', 'bob', 'ask', 'ann')])), can(policy, state, ('drop', 'ann', 'open', 'box'))]
[[(0, 'bob', 'ann', 'box', ('open', 'open'))], [('ann', 'open', 'box'), ('bob', 'own', 'cup')], False]
""",
    "closing": """
>>> from handedkeys.closing import all_that_come, judge_can
>>> from handedkeys.policies import Policy
>>> from handedkeys.states import State
>>> policy = Policy([('hand', 'give', [('use', 'use')]), ('make', ['give'])])
>>> state = State(['ann'], ['box', 'cup'], [('ann', 'give', 'box'), ('ann', 'use', 'cup')])
>>> found = judge_can(policy, state, ('box', 'use', 'cup'))
>>> [all_that_come(policy, state), found.shows(policy, state, ('box', 'use', 'cup')), bool(judge_can(policy, state, ('cup', 'use', 'box')))]
[[('ann', 'give', 'box'), ('ann', 'use', 'cup'), ('box', 'use', 'cup')], True, False]
""",
}


class ExamplesTest(unittest.TestCase):

    def test_each_example_as_it_stands(self):
        for name, text in EXAMPLES.items():
            example = doctest.DocTestParser().get_doctest(text, {}, name, None, 0)
            printed = []
            result = doctest.DocTestRunner().run(example, out=printed.append)
            self.assertEqual(result.failed, 0, "".join(printed))
            self.assertGreater(result.attempted, 2)


if __name__ == "__main__":
    unittest.main()
