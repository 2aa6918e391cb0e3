"""The refusals of the program."""


class SeatError(ValueError):
    pass


class NoVotes(SeatError):
    pass


class NoLot(SeatError):
    pass
