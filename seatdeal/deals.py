"""What both ways to deal, and lots, have in common."""


# A new list, so that no list that was handed in is ever changed.
def one_each(given, lists):
    return [count + 1 if place in lists else count for place, count in enumerate(given)]


# The ways to deal differ in whose turn it is: foremost(given) answers these lists by rising place.
def dealt(given, seats, foremost):
    while seats > 0:
        lists = foremost(given)
        if len(lists) > seats:
            return (given, lists, seats)
        given = one_each(given, lists)
        seats = seats - len(lists)
    return (given, [], 0)
