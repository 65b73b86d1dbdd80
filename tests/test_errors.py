import unittest

import sayso.errors
from sayso.errors import SaysoError

NAMES = ["BadStructure", "BadFormula", "BadText", "BadArgument", "BadMachine", "NotFitting", "TooLarge", "BadLine"]


class TestErrors(unittest.TestCase):
    def test_base(self):
        self.assertEqual(SaysoError.__bases__, (ValueError,))

    def test_each_stands_directly_under_the_base(self):
        for name in NAMES:
            with self.subTest(name):
                error = getattr(sayso.errors, name)
                self.assertEqual(error.__bases__, (SaysoError,))
                self.assertEqual(error.__module__, "sayso.errors")
                with self.assertRaises(SaysoError):
                    raise error("why")


if __name__ == "__main__":
    unittest.main()
