"""What is promised over the whole program: by both ways to deal, and with the lots that settle their ties."""

import inspect
import itertools
import unittest

from helper import WAYS, all_cases, assert_refused, large_cases, small_cases
from seatdeal.divisors import by_divisors
from seatdeal.errors import NoLot, NoVotes
from seatdeal.lots import must_draw, settled
from seatdeal.remainders import by_remainders, whole_seats


def deals(cases):
    for (votes, seats), way in itertools.product(cases, WAYS):
        yield votes, seats, way(votes, seats)


def lots_for(deal):
    """Every order of the tied lists that are few, and for many each turn of them, both ways round."""
    tied = deal[1]
    if len(tied) < 5:
        return [list(lot) for lot in itertools.permutations(tied)]
    turns = [tied[place:] + tied[:place] for place in range(0, len(tied), 9)]
    return turns + [turn[::-1] for turn in turns]


class Interface(unittest.TestCase):
    def test_arguments(self):
        for function, names in (
            (whole_seats, ["votes", "seats"]),
            (by_remainders, ["votes", "seats"]),
            (by_divisors, ["votes", "seats", "first", "step"]),
            (settled, ["deal", "lot"]),
            (must_draw, ["deal"]),
        ):
            self.assertEqual(list(inspect.signature(function).parameters), names)


class DealForm(unittest.TestCase):
    def test_kinds(self):
        for votes, seats, deal in deals(all_cases()):
            self.assertIs(type(deal), tuple)
            given, tied, free = deal
            self.assertIs(type(given), list)
            self.assertIs(type(tied), list)
            self.assertEqual({type(number) for number in given + tied + [free]}, {int})

    def test_seats_add_up_and_ties_are_real(self):
        for votes, seats, (given, tied, free) in deals(all_cases()):
            self.assertEqual(len(given), len(votes))
            self.assertGreaterEqual(min(given), 0)
            self.assertEqual(sum(given) + free, seats)
            self.assertEqual(tied, sorted(set(tied)))
            self.assertTrue(set(tied) <= set(range(len(votes))))
            if tied:
                self.assertTrue(0 < free < len(tied))
            else:
                self.assertEqual(free, 0)


class Promised(unittest.TestCase):
    def test_more_votes_never_fewer_seats_however_settled(self):
        for votes, seats, deal in deals(small_cases()):
            for lot in lots_for(deal):
                counts = settled(deal, lot)
                for one, other in itertools.permutations(range(len(votes)), 2):
                    if votes[one] > votes[other]:
                        self.assertGreaterEqual(counts[one], counts[other], (votes, seats))

    def test_more_votes_never_fewer_seats_in_large_deals(self):
        for votes, seats, (given, tied, free) in deals(large_cases()):
            most = [count + (place in tied) for place, count in enumerate(given)]
            for one, other in itertools.permutations(range(len(votes)), 2):
                if votes[one] > votes[other]:
                    self.assertGreaterEqual(given[one], most[other], (votes, seats))

    def test_equal_votes_equal_seats_and_both_tied_or_none(self):
        for votes, seats, (given, tied, free) in deals(all_cases()):
            had = {}
            for place, count in enumerate(votes):
                had.setdefault(count, set()).add((given[place], place in tied))
            self.assertEqual({len(kinds) for kinds in had.values()}, {1}, (votes, seats))

    def test_by_divisors_one_seat_more_with_the_same_lot(self):
        for way, votes in itertools.product(WAYS[1:], ([6, 6, 3], [1, 1, 1, 1], [5, 0, 5, 10], [4, 3, 2, 1])):
            for lot in itertools.permutations(range(len(votes))):
                counts = [settled(way(votes, seats), list(lot)) for seats in range(14)]
                for before, after in zip(counts, counts[1:]):
                    grown = [more - less for less, more in zip(before, after)]
                    self.assertEqual(sorted(grown), [0] * (len(votes) - 1) + [1], (votes, lot))


class Settling(unittest.TestCase):
    def test_all_seats_are_dealt_out(self):
        for votes, seats, deal in deals(all_cases()):
            given, tied, free = deal
            for lot in lots_for(deal):
                counts = settled(deal, lot)
                self.assertEqual(sum(counts), seats)
                grown = [place for place, count in enumerate(counts) if count != given[place]]
                self.assertEqual(grown, sorted(lot[:free]), (votes, seats))

    def test_draws_are_told(self):
        told = set()
        for votes, seats, deal in deals(all_cases()):
            self.assertIs(must_draw(deal), sum(deal[0]) < seats)
            told.add(must_draw(deal))
        self.assertEqual(told, {True, False})

    def test_untied_deals_need_no_lot(self):
        for votes, seats, deal in deals(all_cases()):
            if must_draw(deal):
                assert_refused(self, NoLot, settled, deal, [])
                assert_refused(self, NoLot, settled, deal, deal[1][1:])
            else:
                self.assertEqual(settled(deal, []), deal[0])
                self.assertEqual(settled(deal, list(range(len(votes)))), deal[0])


class HandedIn(unittest.TestCase):
    def test_votes_stay_as_they_were(self):
        for votes, seats in all_cases():
            before = list(votes)
            whole_seats(votes, seats)
            for way in WAYS:
                way(votes, seats)
            self.assertEqual(votes, before)

    def test_answers_are_lists_of_their_own(self):
        votes = [2, 1, 1]
        for seats, way in itertools.product(range(5), WAYS):
            asked = repr(way(votes, seats))
            given, tied, free = way(votes, seats)
            given.append(9)
            tied.append(9)
            self.assertEqual(votes, [2, 1, 1])
            self.assertEqual(repr(way(votes, seats)), asked)

    def test_refused_votes_stay_as_they_were(self):
        for votes, seats in itertools.product(([], [0], [0] * 100), (0, 1, 200)):
            for way in [whole_seats] + WAYS:
                assert_refused(self, NoVotes, way, votes, seats)


if __name__ == "__main__":
    unittest.main()
