"""What several of the tests need: the ways to deal, and the votes and seats that they are tried on."""

import functools
import itertools

from seatdeal.divisors import by_divisors
from seatdeal.errors import NoLot, NoVotes, SeatError
from seatdeal.remainders import by_remainders

BIG = 10**99
# Pairs of `first` and `step`: ones, small ones, and ones of twenty figures up to a hundred.
RULES = (
    (1, 1),
    (1, 2),
    (2, 1),
    (7, 3),
    (1, 10**20 + 39),
    (10**19 + 51, 1),
    (10**24 + 7, 3 * 10**24),
    (10 * BIG - 1, 10 * BIG - 3),
)
WAYS = [by_remainders] + [functools.partial(by_divisors, first=first, step=step) for first, step in RULES]


def small_votes():
    for most, lists in ((9, 1), (9, 2), (4, 3), (2, 4)):
        for votes in itertools.product(range(most + 1), repeat=lists):
            if any(votes):
                yield list(votes)


def small_cases():
    return itertools.product(small_votes(), range(8))


def large_cases(most=200):
    for lists, seats in ((2, most - 1), (7, 13), (40, most), (99, 57), (100, 1), (100, most)):
        yield [pow(7, 3 * place + seats, 10 * BIG - 1) for place in range(lists)], seats
        yield [pow(3, place, 11) - 1 for place in range(lists)], seats


def all_cases(most=200):
    """Small cases, and large ones of up to so many seats."""
    return itertools.chain(small_cases(), large_cases(most))


def assert_refused(test, refusal, call, *handed_in):
    """The refusal has its own class, and leaves what was handed in as it was."""
    before = repr(handed_in)
    with test.assertRaises(ValueError) as caught:
        call(*handed_in)
    test.assertIs(type(caught.exception), refusal)
    test.assertIsInstance(caught.exception, SeatError)
    test.assertNotIsInstance(caught.exception, NoLot if refusal is NoVotes else NoVotes)
    test.assertEqual(repr(handed_in), before)
