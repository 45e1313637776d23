import unittest

from handedkeys import books, errors

ATTRIBUTES = {"BadState": ["part"], "BadFrame": ["part"], "BadPolicy": ["number"], "BadRight": [], "BadParty": ["name"],
              "BadDeed": ["place"], "BadNumber": [], "BadText": ["line", "column"], "NeverComes": [], "NeverDone": [],
              "TooLarge": [], "NothingDone": []}


class ErrorsTest(unittest.TestCase):

    def test_all_are_direct_subclasses_with_their_attributes(self):
        self.assertEqual(errors.RightError.__bases__, (ValueError,))
        for name, attributes in list(ATTRIBUTES.items()) + [("BadBook", []), ("BadName", ["name"])]:
            kind = getattr(books if name in ("BadBook", "BadName") else errors, name)
            self.assertEqual(kind.__module__, "handedkeys.books" if name in ("BadBook", "BadName") else "handedkeys.errors")
            self.assertEqual(kind.__bases__, (errors.RightError,))
            told = list(range(5, 5 + len(attributes)))
            error = kind(*told)
            self.assertEqual([getattr(error, attribute) for attribute in attributes], told)


if __name__ == "__main__":
    unittest.main()
