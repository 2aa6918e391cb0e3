"""Ties of a deal, and how a lot settles them."""

from seatdeal.deals import one_each
from seatdeal.errors import NoLot


def must_draw(deal):
    return len(deal[1]) > 0


def refuse_if_one_is_missing(tied, lot):
    for place in tied:
        if place not in lot:
            raise NoLot("a tied list is not in the lot")


def settled(deal, lot):
    given = deal[0]
    tied = deal[1]
    free = deal[2]
    refuse_if_one_is_missing(tied, lot)
    # The tied lists are ordered, not picked out of the lot: so each gets one seat at most, whatever the lot holds.
    drawn = sorted(tied, key=lambda place: lot.index(place))
    return one_each(given, drawn[:free])
