import itertools
import unittest

from helper import assert_refused
from seatdeal.errors import NoLot
from seatdeal.lots import must_draw, settled

UNTIED = ([3, 0, 1], [], 0)
ONE_FREE = ([2, 0, 1, 0, 5], [1, 3], 1)
TWO_FREE = ([4, 0, 7, 0, 1, 2], [0, 2, 3, 5], 2)
ALL_TIED = ([0] * 100, list(range(100)), 99)


class MustDraw(unittest.TestCase):
    def test_tie(self):
        for deal in (ONE_FREE, TWO_FREE, ALL_TIED, ([0, 0], [0, 1], 1)):
            self.assertIs(must_draw(deal), True)

    def test_no_tie(self):
        for deal in (UNTIED, ([0], [], 0), ([0, 0], [], 0), ([200], [], 0)):
            self.assertIs(must_draw(deal), False)


class Settled(unittest.TestCase):
    def test_tied_lists_alone(self):
        self.assertEqual(settled(ONE_FREE, [1, 3]), [2, 1, 1, 0, 5])
        self.assertEqual(settled(ONE_FREE, [3, 1]), [2, 0, 1, 1, 5])
        self.assertEqual(settled(TWO_FREE, [5, 0, 2, 3]), [5, 0, 7, 0, 1, 3])
        self.assertEqual(settled(TWO_FREE, [3, 2, 0, 5]), [4, 0, 8, 1, 1, 2])

    def test_all_lists(self):
        self.assertEqual(settled(ONE_FREE, [0, 1, 2, 3, 4]), [2, 1, 1, 0, 5])
        self.assertEqual(settled(ONE_FREE, [4, 3, 2, 1, 0]), [2, 0, 1, 1, 5])
        self.assertEqual(settled(TWO_FREE, [0, 1, 2, 3, 4, 5]), [5, 0, 8, 0, 1, 2])

    def test_lists_that_are_not_tied_get_nothing(self):
        # Ahead of the tied ones, between them, and behind them.
        self.assertEqual(settled(ONE_FREE, [0, 4, 3, 1]), [2, 0, 1, 1, 5])
        self.assertEqual(settled(TWO_FREE, [1, 4, 5, 2, 0, 3]), [4, 0, 8, 0, 1, 3])
        self.assertEqual(settled(TWO_FREE, [3, 1, 4, 0, 2, 5]), [5, 0, 7, 1, 1, 2])
        self.assertEqual(settled(TWO_FREE, [3, 0, 2, 5, 1, 4]), [5, 0, 7, 1, 1, 2])

    def test_every_lot_of_all_lists(self):
        given, tied, free = TWO_FREE
        for lot in itertools.permutations(range(len(given))):
            drawn = [place for place in lot if place in tied][:free]
            asked = [count + drawn.count(place) for place, count in enumerate(given)]
            self.assertEqual(settled(TWO_FREE, list(lot)), asked)

    def test_no_tie_with_any_lot(self):
        for lot in ([], [0], [2, 1, 0], [1, 2]):
            self.assertEqual(settled(UNTIED, lot), [3, 0, 1])

    def test_a_hundred_tied_lists(self):
        self.assertEqual(settled(ALL_TIED, list(range(99, -1, -1))), [0] + [1] * 99)
        self.assertEqual(settled(ALL_TIED, list(range(100))), [1] * 99 + [0])

    def test_large_numbers_of_seats(self):
        many = 10**99
        self.assertEqual(settled(([many, many], [0, 1], 1), [1, 0]), [many, many + 1])

    def test_somewhat_beyond_the_bounds(self):
        self.assertEqual(settled(ONE_FREE, [7, 3, 1]), [2, 0, 1, 1, 5])
        self.assertEqual(settled(TWO_FREE, [5, 5, 3, 0, 2]), [4, 0, 7, 1, 1, 3])

    def test_kinds(self):
        for deal, lot in ((UNTIED, []), (ONE_FREE, [3, 1]), (TWO_FREE, [5, 3, 2, 0])):
            seats = settled(deal, lot)
            self.assertIs(type(seats), list)
            self.assertEqual({type(count) for count in seats}, {int})


class Refusals(unittest.TestCase):
    def test_empty_lot(self):
        for deal in (ONE_FREE, TWO_FREE, ALL_TIED):
            assert_refused(self, NoLot, settled, deal, [])

    def test_any_tied_list_missing(self):
        for deal in (ONE_FREE, TWO_FREE, ALL_TIED):
            for missing in deal[1]:
                lot = [place for place in range(len(deal[0])) if place != missing]
                assert_refused(self, NoLot, settled, deal, lot)
                assert_refused(self, NoLot, settled, deal, lot[::-1])

    def test_missing_list_would_have_got_nothing(self):
        assert_refused(self, NoLot, settled, ONE_FREE, [1])
        assert_refused(self, NoLot, settled, TWO_FREE, [5, 3, 0])

    def test_lists_that_are_not_tied_may_be_missing(self):
        self.assertEqual(settled(ONE_FREE, [4, 1, 3]), [2, 1, 1, 0, 5])

    def test_place_nought_is_asked_for_too(self):
        assert_refused(self, NoLot, settled, ([0, 0], [0, 1], 1), [1])


class HandedIn(unittest.TestCase):
    def test_deal_and_lot_stay_as_they_were(self):
        for deal, lot in ((UNTIED, [2, 0, 1]), (ONE_FREE, [4, 3, 2, 1, 0]), (TWO_FREE, [1, 5, 3, 2, 0])):
            before = repr((deal, lot))
            settled(deal, lot)
            must_draw(deal)
            self.assertEqual(repr((deal, lot)), before)

    def test_answer_is_a_list_of_its_own(self):
        for deal, lot in ((UNTIED, []), (ONE_FREE, [3, 1])):
            before = repr((deal, lot))
            settled(deal, lot).append(9)
            self.assertEqual(repr((deal, lot)), before)

    def test_the_same_deal_can_be_settled_again(self):
        self.assertEqual(settled(ONE_FREE, [1, 3]), settled(ONE_FREE, [1, 3]))


if __name__ == "__main__":
    unittest.main()
