import unittest

from branchway.errors import BadState, BadTree, BranchError


class ErrorsTest(unittest.TestCase):
    def test_any_refusal_is_a_value_error(self):
        self.assertEqual(BranchError.__bases__, (ValueError,))

    def test_each_refusal_is_a_branch_error(self):
        self.assertEqual(BadTree.__bases__, (BranchError,))
        self.assertEqual(BadState.__bases__, (BranchError,))


if __name__ == "__main__":
    unittest.main()
