import unittest

from ridebook.errors import NoLine, NoRide, NoStop, NoWay, RideError

REFUSALS = (NoRide, NoStop, NoLine, NoWay)


class TestErrors(unittest.TestCase):
    def test_ride_error_stands_under_value_error(self):
        self.assertEqual(RideError.__bases__, (ValueError,))

    def test_each_refusal_stands_under_ride_error(self):
        for refusal in REFUSALS:
            with self.subTest(refusal=refusal.__name__):
                self.assertEqual(refusal.__bases__, (RideError,))

    def test_no_refusal_stands_under_a_sibling(self):
        for refusal in REFUSALS:
            for sibling in REFUSALS:
                with self.subTest(refusal=refusal.__name__, sibling=sibling.__name__):
                    self.assertEqual(issubclass(refusal, sibling), refusal == sibling)

    def test_names(self):
        names = [refusal.__name__ for refusal in REFUSALS]
        self.assertEqual(names, ["NoRide", "NoStop", "NoLine", "NoWay"])
        self.assertEqual(RideError.__name__, "RideError")

    def test_each_is_raised_with_words(self):
        for refusal in REFUSALS:
            with self.subTest(refusal=refusal.__name__):
                with self.assertRaises(RideError) as caught:
                    raise refusal("words")
                self.assertEqual(str(caught.exception), "words")


if __name__ == "__main__":
    unittest.main()
