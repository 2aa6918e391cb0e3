"""The deal by divisors."""

from seatdeal.deals import dealt
from seatdeal.errors import NoVotes


def refuse_without_votes(votes):
    # Asked list by list: unlike a share, a worth needs no sum of all votes.
    if max(votes, default=0) <= 0:
        raise NoVotes("no list has a vote")


# Fractions over divisors above nought stand to one another as their cross products do, which are whole.
def of_greatest_worth(votes, divisors):
    best = 0
    for place, count in enumerate(votes):
        if count * divisors[best] > votes[best] * divisors[place]:
            best = place
    return [place for place, count in enumerate(votes) if count * divisors[best] == votes[best] * divisors[place]]


def divisors_for(given, first, step):
    return [first + step * count for count in given]


def by_divisors(votes, seats, first, step):
    refuse_without_votes(votes)
    given = [0 for count in votes]
    return dealt(given, seats, lambda now: of_greatest_worth(votes, divisors_for(now, first, step)))
