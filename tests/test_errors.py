import unittest

from flatsheaves.errors import FlatError, KindError, PaperError, TrapError


class Errors(unittest.TestCase):
    def test_base_classes(self):
        self.assertEqual(FlatError.__bases__, (ValueError,))
        for error in (KindError, TrapError, PaperError):
            self.assertEqual(error.__bases__, (FlatError,))

    def test_plain_errors_carry_their_message(self):
        for error in (FlatError, KindError, TrapError):
            self.assertEqual(str(error("why")), "why")

    def test_at_of_paper_error(self):
        for at in (0, 1, 7, 1000):
            self.assertEqual(PaperError(at).at, at)

    def test_at_belongs_to_each_object(self):
        first, second = PaperError(3), PaperError(4)
        self.assertEqual((first.at, second.at), (3, 4))
        self.assertIn("at", vars(first))

    def test_paper_error_is_raised_and_caught_as_flat_error(self):
        with self.assertRaises(FlatError) as caught:
            raise PaperError(2)
        self.assertEqual(caught.exception.at, 2)


if __name__ == "__main__":
    unittest.main()
