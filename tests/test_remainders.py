import itertools
import unittest
from fractions import Fraction

from helper import BIG, all_cases, assert_refused, large_cases, small_cases
from seatdeal.errors import NoVotes
from seatdeal.remainders import by_remainders, whole_seats


def shares(votes, seats):
    return [Fraction(count * seats, sum(votes)) for count in votes]


def deal_by_the_words(votes, seats):
    """Promise [5] told anew over fractions, list by list."""
    given = [share.numerator // share.denominator for share in shares(votes, seats)]
    over = {place: share - given[place] for place, share in enumerate(shares(votes, seats))}
    remain = seats - sum(given)
    while remain > 0:
        first = [place for place in sorted(over) if over[place] == max(over.values())]
        if len(first) > remain:
            return given, first, remain
        for place in first:
            given[place] += 1
            del over[place]
        remain -= len(first)
    return given, [], 0


def settlements(deal):
    given, tied, free = deal
    for lucky in itertools.combinations(tied, free):
        yield [count + (place in lucky) for place, count in enumerate(given)]


class WholeSeats(unittest.TestCase):
    def test_ordinary(self):
        self.assertEqual(whole_seats([53, 24, 23], 7), [3, 1, 1])

    def test_even(self):
        self.assertEqual(whole_seats([10, 20, 30], 6), [1, 2, 3])

    def test_just_below_a_whole_share(self):
        self.assertEqual(whole_seats([BIG - 1, BIG + 1], 2), [0, 1])

    def test_nought_seats(self):
        self.assertEqual(whole_seats([5, 0, 3], 0), [0, 0, 0])

    def test_list_without_votes(self):
        self.assertEqual(whole_seats([0, 5, 0], 9), [0, 9, 0])

    def test_one_list_alone(self):
        self.assertEqual(whole_seats([3], 2000), [2000])

    def test_is_the_greatest_whole_number_no_greater_than_the_share(self):
        for votes, seats in all_cases(most=2000):
            whole = whole_seats(votes, seats)
            self.assertEqual(len(whole), len(votes))
            for part, share in zip(whole, shares(votes, seats)):
                self.assertIs(type(part), int)
                self.assertTrue(part <= share < part + 1, (votes, seats))


class Refusals(unittest.TestCase):
    def test_no_list(self):
        for seats in (0, 1, 2000):
            for call in (whole_seats, by_remainders):
                assert_refused(self, NoVotes, call, [], seats)

    def test_all_votes_nought(self):
        for lists, seats in itertools.product((1, 2, 100), (0, 1, 2000)):
            for call in (whole_seats, by_remainders):
                assert_refused(self, NoVotes, call, [0] * lists, seats)

    def test_one_vote_is_enough(self):
        self.assertEqual(by_remainders([0, 1, 0], 0), ([0, 0, 0], [], 0))
        self.assertEqual(by_remainders([0, 1, 0], 4), ([0, 4, 0], [], 0))
        self.assertEqual(whole_seats([0, 1, 0], 4), [0, 4, 0])


class ByRemainders(unittest.TestCase):
    def test_ordinary(self):
        self.assertEqual(by_remainders([53, 24, 23], 7), ([4, 2, 1], [], 0))
        self.assertEqual(by_remainders([416, 338, 246], 10), ([4, 3, 3], [], 0))

    def test_most_left_over_not_most_votes(self):
        self.assertEqual(by_remainders([61, 39], 1), ([1, 0], [], 0))
        self.assertEqual(by_remainders([70, 16, 14], 3), ([2, 1, 0], [], 0))

    def test_nought_seats(self):
        self.assertEqual(by_remainders([4, 0, 4], 0), ([0, 0, 0], [], 0))

    def test_list_without_votes_gets_nothing_and_is_not_tied(self):
        self.assertEqual(by_remainders([0, 1, 0, 1], 3), ([0, 1, 0, 1], [1, 3], 1))

    def test_one_list_alone(self):
        for seats in (0, 1, 7, 2000):
            self.assertEqual(by_remainders([13], seats), ([seats], [], 0))

    def test_nothing_left_over(self):
        self.assertEqual(by_remainders([10, 20, 30], 12), ([2, 4, 6], [], 0))
        self.assertEqual(by_remainders([7, 7], 2), ([1, 1], [], 0))

    def test_enough_seats_for_all_of_the_first(self):
        self.assertEqual(by_remainders([3, 3, 1], 2), ([1, 1, 0], [], 0))

    def test_enough_seats_for_all_with_unlike_whole_shares(self):
        # Shares 8/10, 28/10 and 4/10: two seats remain for two rests of 8/10.
        self.assertEqual(by_remainders([2, 7, 1], 4), ([1, 3, 0], [], 0))

    def test_too_few_seats_for_all_with_unlike_whole_shares(self):
        # Shares 7/3, 4/3 and 16/3: one seat remains for three rests of 1/3.
        self.assertEqual(by_remainders([7, 4, 16], 9), ([2, 1, 5], [0, 1, 2], 1))
        # Shares 8/3, 5/3 and 2/3: two seats remain for three rests of 2/3.
        self.assertEqual(by_remainders([8, 5, 2], 5), ([2, 1, 0], [0, 1, 2], 2))

    def test_too_few_seats_for_all_of_the_first(self):
        self.assertEqual(by_remainders([2, 1, 1], 2), ([1, 0, 0], [1, 2], 1))
        self.assertEqual(by_remainders([1, 1, 1], 2), ([0, 0, 0], [0, 1, 2], 2))

    def test_tie_behind_a_list_that_got_its_seat(self):
        # Shares 6/10, 8/10 and 6/10: the middle list gets one seat, the other is free.
        self.assertEqual(by_remainders([3, 4, 3], 2), ([0, 1, 0], [0, 2], 1))

    def test_tie_behind_lists_that_were_equal_and_had_enough(self):
        self.assertEqual(by_remainders([1, 2, 2, 1, 1], 3), ([0, 1, 1, 0, 0], [0, 3, 4], 1))

    def test_seats_run_out_with_an_equal_group_behind(self):
        self.assertEqual(by_remainders([2, 5, 2, 2, 5], 2), ([0, 1, 0, 0, 1], [], 0))

    def test_tied_lists_stand_by_rising_place(self):
        self.assertEqual(by_remainders([1] * 12, 5), ([0] * 12, list(range(12)), 5))

    def test_fewer_left_over_never_tied_with_the_most(self):
        self.assertEqual(by_remainders([BIG, BIG + 1], 1), ([0, 1], [], 0))
        self.assertEqual(by_remainders([10 * BIG - 1, 10 * BIG - 2, 10 * BIG - 1], 1), ([0, 0, 0], [0, 2], 1))

    def test_a_hundred_lists_and_two_thousand_seats(self):
        self.assertEqual(by_remainders([BIG] * 100, 2000), ([20] * 100, [], 0))
        self.assertEqual(by_remainders([BIG] * 100, 1999), ([19] * 100, list(range(100)), 99))
        votes = [BIG] * 99 + [BIG + 1]
        self.assertEqual(by_remainders(votes, 1), ([0] * 99 + [1], [], 0))

    def test_somewhat_beyond_the_bounds(self):
        self.assertEqual(by_remainders([1] * 101, 2001), ([19] * 101, list(range(101)), 82))
        self.assertEqual(by_remainders([10**101, 10**101 + 1], 2001), ([1000, 1001], [], 0))
        self.assertEqual(whole_seats([10**101], 2001), [2001])
        self.assertEqual(by_remainders([1, 1], -1), ([-1, -1], [0, 1], 1))
        self.assertEqual(by_remainders([-1, 5], 4), ([-1, 5], [], 0))

    def test_as_the_words_say(self):
        for votes, seats in all_cases(most=2000):
            self.assertEqual(by_remainders(votes, seats), deal_by_the_words(votes, seats), (votes, seats))


class Promised(unittest.TestCase):
    def test_less_than_a_seat_from_the_share(self):
        for votes, seats in small_cases():
            for settled in settlements(by_remainders(votes, seats)):
                for count, share in zip(settled, shares(votes, seats)):
                    self.assertLess(abs(count - share), 1, (votes, seats))

    def test_large_deals_settled_for_and_against_each_list(self):
        for votes, seats in large_cases(most=2000):
            given, tied, free = by_remainders(votes, seats)
            least = given
            most = [count + (place in tied) for place, count in enumerate(given)]
            for place, share in enumerate(shares(votes, seats)):
                self.assertLess(share - least[place], 1)
                self.assertLess(most[place] - share, 1)
            for one, other in itertools.permutations(range(len(votes)), 2):
                if votes[one] > votes[other]:
                    self.assertGreaterEqual(least[one], most[other])


if __name__ == "__main__":
    unittest.main()
