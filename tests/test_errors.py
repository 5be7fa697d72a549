"""The refusals: the interface's section on postbooks/errors.py."""

import unittest

from postbooks.errors import NoCut, NoLetter, Poor, PostError


class Refusals(unittest.TestCase):
    def test_any_refusal_is_a_value_error(self):
        self.assertEqual(PostError.__bases__, (ValueError,))

    def test_each_refusal_is_a_post_error_itself(self):
        for kind in (Poor, NoCut, NoLetter):
            self.assertEqual(kind.__bases__, (PostError,))

    def test_each_refusal_is_raised_and_taken_by_its_own_name(self):
        kinds = (Poor, NoCut, NoLetter)
        for kind in kinds:
            with self.assertRaises(kind) as caught:
                raise kind("words")
            for other in kinds:
                self.assertEqual(isinstance(caught.exception, other), other is kind)


if __name__ == "__main__":
    unittest.main()
