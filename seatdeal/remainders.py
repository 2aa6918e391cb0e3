"""The deal by what is left over of the shares."""

from seatdeal.errors import NoVotes


def all_votes(votes):
    total = sum(votes)
    # Without a vote in all there is nothing to divide by, so no list has a share.
    if total <= 0:
        raise NoVotes("no list has a vote")
    return total


def whole_seats(votes, seats):
    total = all_votes(votes)
    return [count * seats // total for count in votes]


# What is left over is told times all votes: so it stays whole, and the order is the same.
def left_over(votes, seats):
    total = all_votes(votes)
    return [count * seats % total for count in votes]


def places_of(part, parts):
    return [place for place, other in enumerate(parts) if other == part]


def by_remainders(votes, seats):
    given = whole_seats(votes, seats)
    parts = left_over(votes, seats)
    free = seats - sum(given)
    for most in reversed(sorted(set(parts))):
        if free == 0:
            break
        lists = places_of(most, parts)
        if len(lists) > free:
            return (given, lists, free)
        for place in lists:
            given[place] = given[place] + 1
        free = free - len(lists)
    return (given, [], 0)
