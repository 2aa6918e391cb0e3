import unittest

from seatdeal.errors import NoLot, NoVotes, SeatError


class Classes(unittest.TestCase):
    def test_any_refusal_is_a_value_error(self):
        self.assertEqual(SeatError.__bases__, (ValueError,))

    def test_each_refusal_is_a_seat_error(self):
        self.assertEqual(NoVotes.__bases__, (SeatError,))
        self.assertEqual(NoLot.__bases__, (SeatError,))

    def test_refusals_are_not_under_one_another(self):
        self.assertFalse(issubclass(NoVotes, NoLot))
        self.assertFalse(issubclass(NoLot, NoVotes))

    def test_each_is_raised_and_taken_as_any_refusal(self):
        for refusal in (SeatError, NoVotes, NoLot):
            for taken in (refusal, SeatError, ValueError):
                with self.assertRaises(taken):
                    raise refusal("words")


if __name__ == "__main__":
    unittest.main()
