import unittest

from ringseat.errors import Away, Full, NoGuest, NoSize, RingError, Twice

REFUSALS = (NoGuest, NoSize, Twice, Away, Full)


class Errors(unittest.TestCase):
    def test_any_refusal_stands_under_value_error(self):
        self.assertEqual(RingError.__bases__, (ValueError,))

    def test_each_refusal_stands_straight_under_ring_error(self):
        for refusal in REFUSALS:
            with self.subTest(refusal=refusal):
                self.assertEqual(refusal.__bases__, (RingError,))

    def test_none_of_the_five_stands_under_another(self):
        for one in REFUSALS:
            for other in REFUSALS:
                with self.subTest(one=one, other=other):
                    self.assertEqual(issubclass(one, other), one is other)

    def test_ring_error_stands_under_none_of_the_five(self):
        for refusal in REFUSALS:
            self.assertFalse(issubclass(RingError, refusal))

    def test_names(self):
        names = [refusal.__name__ for refusal in REFUSALS]
        self.assertEqual(names, ["NoGuest", "NoSize", "Twice", "Away", "Full"])
        self.assertEqual(RingError.__name__, "RingError")

    def test_each_is_raised_with_words_and_taken_as_any_refusal(self):
        for refusal in REFUSALS + (RingError,):
            for taken in (refusal, RingError, ValueError):
                with self.subTest(refusal=refusal, taken=taken):
                    with self.assertRaises(taken):
                        raise refusal("words")


if __name__ == "__main__":
    unittest.main()
