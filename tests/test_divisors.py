import itertools
import unittest
from fractions import Fraction

from helper import BIG, RULES, all_cases, assert_refused, large_cases, small_cases, small_votes
from seatdeal.divisors import by_divisors
from seatdeal.errors import NoVotes


def deal_by_the_words(votes, seats, first, step):
    """Promises [6] and [7] told anew over fractions, list by list."""
    given = [0] * len(votes)
    worths = [Fraction(count, first) for count in votes]
    remain = seats
    while remain > 0:
        greatest = max(worths)
        lists = [place for place, worth in enumerate(worths) if worth == greatest]
        if len(lists) > remain:
            return given, lists, remain
        for place in lists:
            given[place] += 1
            worths[place] = Fraction(votes[place], first + step * given[place])
        remain -= len(lists)
    return given, [], 0


class Ordinary(unittest.TestCase):
    def test_divisors_one_two_three(self):
        # Worths that win: 340, 280, 170, 160, 140, 113 1/3, 93 1/3.
        self.assertEqual(by_divisors([340, 280, 160, 60], 7, 1, 1), ([3, 3, 1, 0], [], 0))

    def test_divisors_one_three_five(self):
        # Worths that win: 340, 280, 160, 113 1/3, 93 1/3, 68, 60.
        self.assertEqual(by_divisors([340, 280, 160, 60], 7, 1, 2), ([3, 2, 1, 1], [], 0))

    def test_a_greater_first_divisor_puts_small_lists_off(self):
        # Divisors 7, 10, 13: the worths that win are 50/7, 50/10, 50/13 and 26/7.
        self.assertEqual(by_divisors([50, 26, 24], 4, 7, 3), ([3, 1, 0], [], 0))
        # Divisors 1, 4, 7: the worths that win are 50, 26, 24 and 50/4.
        self.assertEqual(by_divisors([50, 26, 24], 4, 1, 3), ([2, 1, 1], [], 0))

    def test_a_greater_step_spreads_the_seats(self):
        self.assertEqual(by_divisors([91, 10], 9, 1, 1), ([9, 0], [], 0))
        self.assertEqual(by_divisors([91, 10], 9, 1, 10), ([8, 1], [], 0))
        self.assertEqual(by_divisors([90, 10, 1], 3, 1, 10**20), ([1, 1, 1], [], 0))

    def test_a_far_greater_first_gives_all_to_the_most_votes(self):
        self.assertEqual(by_divisors([10, 9], 200, 10**22, 1), ([200, 0], [], 0))

    def test_as_the_words_say(self):
        for votes, seats in all_cases():
            for first, step in RULES:
                asked = (votes, seats, first, step)
                self.assertEqual(by_divisors(*asked), deal_by_the_words(*asked), asked)

    def test_small_divisors_as_the_words_say(self):
        for first, step in itertools.product(range(1, 6), repeat=2):
            for votes in ([9, 5, 2], [12, 6, 4, 3], [60, 30, 20, 15], [8, 8, 4], [7, 0, 5]):
                for seats in range(25):
                    asked = (votes, seats, first, step)
                    self.assertEqual(by_divisors(*asked), deal_by_the_words(*asked), asked)


class Edges(unittest.TestCase):
    def test_nought_seats(self):
        for first, step in RULES:
            self.assertEqual(by_divisors([4, 0, 4], 0, first, step), ([0, 0, 0], [], 0))

    def test_list_without_votes_gets_nothing_and_is_not_tied(self):
        for first, step in RULES:
            self.assertEqual(by_divisors([0, 1, 0], 200, first, step), ([0, 200, 0], [], 0))
            self.assertEqual(by_divisors([0, 1, 0, 1], 3, first, step), ([0, 1, 0, 1], [1, 3], 1))

    def test_one_list_alone(self):
        for first, step in RULES:
            for seats in (0, 1, 7, 200):
                self.assertEqual(by_divisors([13], seats, first, step), ([seats], [], 0))

    def test_one_vote_is_enough(self):
        self.assertEqual(by_divisors([0, 1], 0, 1, 1), ([0, 0], [], 0))
        self.assertEqual(by_divisors([0, 1], 1, 1, 1), ([0, 1], [], 0))

    def test_equal_votes(self):
        for first, step in RULES:
            self.assertEqual(by_divisors([5, 5, 5], 6, first, step), ([2, 2, 2], [], 0))
            self.assertEqual(by_divisors([5, 5, 5], 7, first, step), ([2, 2, 2], [0, 1, 2], 1))
            self.assertEqual(by_divisors([5, 5, 5], 8, first, step), ([2, 2, 2], [0, 1, 2], 2))
            self.assertEqual(by_divisors([5, 5, 5], 9, first, step), ([3, 3, 3], [], 0))

    def test_a_hundred_lists_and_two_hundred_seats(self):
        for first, step in RULES:
            self.assertEqual(by_divisors([BIG] * 100, 200, first, step), ([2] * 100, [], 0))
            self.assertEqual(by_divisors([BIG] * 100, 199, first, step), ([1] * 100, list(range(100)), 99))
            self.assertEqual(by_divisors([BIG] * 99 + [BIG + 1], 101, first, step)[0][99], 2)

    def test_most_of_two_hundred_seats_to_one_list(self):
        # The great list's worth comes down to 199/199 as its last seat is dealt.
        self.assertEqual(by_divisors([199, 1], 198, 1, 1), ([198, 0], [], 0))
        self.assertEqual(by_divisors([199, 1], 199, 1, 1), ([198, 0], [0, 1], 1))
        self.assertEqual(by_divisors([199, 1], 200, 1, 1), ([199, 1], [], 0))
        self.assertEqual(by_divisors([200, 1], 200, 1, 1), ([199, 0], [0, 1], 1))
        self.assertEqual(by_divisors([201, 1], 200, 1, 1), ([200, 0], [], 0))

    def test_somewhat_beyond_the_bounds(self):
        self.assertEqual(by_divisors([1] * 101, 202, 1, 1), ([2] * 101, [], 0))
        self.assertEqual(by_divisors([1] * 101, 201, 1, 1), ([1] * 101, list(range(101)), 100))
        self.assertEqual(by_divisors([10**101, 10**101 + 1], 1, 10**101, 10**101), ([0, 1], [], 0))
        self.assertEqual(by_divisors([2, 1], 2001, 1, 2), ([1334, 667], [], 0))
        self.assertEqual(by_divisors([2, 1], -1, 1, 1), ([0, 0], [], 0))
        self.assertEqual(by_divisors([3, 2], 4, 5, 0), ([4, 0], [], 0))
        self.assertEqual(by_divisors([3, 1], 3, 0, 1), ([2, 1], [], 0))
        self.assertEqual(by_divisors([-3, 1], 2, 1, 1), ([0, 2], [], 0))


class Ties(unittest.TestCase):
    def test_too_few_seats_for_the_first(self):
        self.assertEqual(by_divisors([3, 3], 1, 1, 1), ([0, 0], [0, 1], 1))
        self.assertEqual(by_divisors([1, 3, 2, 3, 3], 2, 1, 1), ([0, 0, 0, 0, 0], [1, 3, 4], 2))

    def test_enough_seats_for_the_first(self):
        self.assertEqual(by_divisors([3, 3], 2, 1, 1), ([1, 1], [], 0))
        self.assertEqual(by_divisors([1, 3, 2, 3, 3], 3, 1, 1), ([0, 1, 0, 1, 1], [], 0))

    def test_equal_worths_of_unlike_votes(self):
        # After 12, 6 and 6 come 4, 4 and 4.
        self.assertEqual(by_divisors([12, 6, 4], 1, 1, 1), ([1, 0, 0], [], 0))
        self.assertEqual(by_divisors([12, 6, 4], 2, 1, 1), ([1, 0, 0], [0, 1], 1))
        self.assertEqual(by_divisors([12, 6, 4], 3, 1, 1), ([2, 1, 0], [], 0))
        self.assertEqual(by_divisors([12, 6, 4], 4, 1, 1), ([2, 1, 0], [0, 2], 1))
        self.assertEqual(by_divisors([12, 6, 4], 5, 1, 1), ([3, 1, 1], [], 0))
        self.assertEqual(by_divisors([12, 6, 4], 6, 1, 1), ([3, 1, 1], [0, 1], 1))
        self.assertEqual(by_divisors([12, 6, 4], 7, 1, 1), ([4, 2, 1], [], 0))

    def test_tied_lists_stand_by_rising_place(self):
        self.assertEqual(by_divisors([4, 6, 12], 2, 1, 1), ([0, 0, 1], [1, 2], 1))
        self.assertEqual(by_divisors([4, 12, 6], 4, 1, 1), ([0, 2, 1], [0, 1], 1))
        self.assertEqual(by_divisors([1] * 12, 5, 1, 1), ([0] * 12, list(range(12)), 5))

    def test_next_worth_is_not_dealt_ahead_of_the_tie(self):
        # One seat remains for two lists of worth 6; the list of worth 5 stays behind.
        self.assertEqual(by_divisors([12, 6, 5], 2, 1, 1), ([1, 0, 0], [0, 1], 1))

    def test_ties_of_large_divisors(self):
        for first, step in RULES:
            small, great = first * 3, (first + step) * 3
            self.assertEqual(by_divisors([small, great], 2, first, step), ([0, 1], [0, 1], 1))
            self.assertEqual(by_divisors([small, great], 3, first, step), ([1, 2], [], 0))


class ExactWorths(unittest.TestCase):
    def test_votes_that_differ_by_one(self):
        for first, step in RULES:
            self.assertEqual(by_divisors([BIG, BIG + 1], 1, first, step), ([0, 1], [], 0))
            votes = [10 * BIG - 1, 10 * BIG - 2, 10 * BIG - 1]
            self.assertEqual(by_divisors(votes, 1, first, step), ([0, 0, 0], [0, 2], 1))

    def test_worths_that_differ_by_less_than_one(self):
        self.assertEqual(by_divisors([2 * BIG - 1, BIG], 2, 1, 1), ([1, 1], [], 0))
        self.assertEqual(by_divisors([2 * BIG, BIG], 2, 1, 1), ([1, 0], [0, 1], 1))
        self.assertEqual(by_divisors([2 * BIG + 1, BIG], 2, 1, 1), ([2, 0], [], 0))

    def test_one_vote_around_a_tie(self):
        for first, step in RULES:
            small, great = first * 3, (first + step) * 3
            self.assertEqual(by_divisors([small + 1, great], 2, first, step), ([1, 1], [], 0))
            self.assertEqual(by_divisors([small, great + 1], 2, first, step), ([0, 2], [], 0))

    def test_worths_as_near_as_fractions_can_be(self):
        for first, step in ((7, 3), (10**24 + 7, 3 * 10**24), (10 * BIG - 1, 10 * BIG - 3)):
            # The cross products differ by one: first the list with no seat is ahead, then the one with a seat.
            small = pow(first + step, -1, first)
            great = small * (first + step) // first
            self.assertEqual(small * (first + step) - great * first, 1)
            self.assertEqual(by_divisors([small, great], 2, first, step), ([1, 1], [], 0))
            small, great = first - small, first + step - great
            self.assertEqual(small * (first + step) - great * first, -1)
            self.assertEqual(by_divisors([small, great], 2, first, step), ([0, 2], [], 0))

    def test_worths_below_one(self):
        self.assertEqual(by_divisors([1, 2, 3], 1, 10**30, 1), ([0, 0, 1], [], 0))
        # 2/10 and 3/15 are equal, and both are nought in whole numbers.
        self.assertEqual(by_divisors([2, 3], 2, 10, 5), ([0, 1], [0, 1], 1))


class Refusals(unittest.TestCase):
    def test_no_list(self):
        for first, step in RULES:
            for seats in (0, 1, 200):
                assert_refused(self, NoVotes, by_divisors, [], seats, first, step)

    def test_all_votes_nought(self):
        for first, step in RULES:
            for lists, seats in itertools.product((1, 2, 100), (0, 1, 200)):
                assert_refused(self, NoVotes, by_divisors, [0] * lists, seats, first, step)


class OneSeatMore(unittest.TestCase):
    def assert_grows_by_one_at_most(self, votes, most, first, step):
        before = by_divisors(votes, 0, first, step)[0]
        for seats in range(1, most + 1):
            after = by_divisors(votes, seats, first, step)[0]
            for less, more in zip(before, after):
                self.assertIn(more - less, (0, 1), (votes, seats, first, step))
            before = after

    def test_small(self):
        for votes in small_votes():
            for first, step in RULES[:5]:
                self.assert_grows_by_one_at_most(votes, 9, first, step)

    def test_up_to_two_hundred_seats(self):
        for first, step in RULES:
            for votes in ([47, 16, 158, 82, 12, 61], [6, 6, 3, 2, 0], [10 * BIG - 1, BIG, 7 * BIG]):
                self.assert_grows_by_one_at_most(votes, 200, first, step)


class Alike(unittest.TestCase):
    def test_common_factors_change_nothing(self):
        for votes, seats in small_cases():
            plain = by_divisors(votes, seats, 2, 3)
            self.assertEqual(by_divisors(votes, seats, 2 * BIG, 3 * BIG), plain)
            self.assertEqual(by_divisors([count * BIG for count in votes], seats, 2, 3), plain)

    def test_places_carry_no_weight(self):
        for votes, seats in large_cases():
            given, tied, free = by_divisors(votes, seats, 1, 2)
            last = len(votes) - 1
            turned = given[::-1], [last - place for place in tied[::-1]], free
            self.assertEqual(by_divisors(votes[::-1], seats, 1, 2), turned)


if __name__ == "__main__":
    unittest.main()
