"""The deal by what is left over of the shares."""

from seatdeal.deals import dealt
from seatdeal.errors import NoVotes


def all_votes(votes):
    total = sum(votes)
    # Without a vote in all there is nothing to divide by, so no list has a share.
    if total <= 0:
        raise NoVotes("no list has a vote")
    return total


def whole_seats(votes, seats):
    total = all_votes(votes)
    return [count * seats // total for count in votes]


# What is left over is told times all votes: so it stays whole, and the order is the same.
def left_over(votes, seats):
    total = all_votes(votes)
    return [count * seats % total for count in votes]


# A list with more than its whole share has got its seat for what is left over.
def with_most_left_over(parts, whole, given):
    waiting = [place for place, count in enumerate(given) if count == whole[place]]
    most = max([parts[place] for place in waiting])
    return [place for place in waiting if parts[place] == most]


def by_remainders(votes, seats):
    whole = whole_seats(votes, seats)
    parts = left_over(votes, seats)
    return dealt(whole, seats - sum(whole), lambda given: with_most_left_over(parts, whole, given))
