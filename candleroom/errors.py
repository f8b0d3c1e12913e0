"""The refusals of candleroom."""


class AirError(ValueError):
    """Any refusal."""


class BadHouse(AirError):
    """A house that cannot be: which part of it, and that part's number."""

    def __init__(self, word, number):
        AirError.__init__(self, f"a house cannot be so: {word} {number}")
        self.word = word
        self.number = number


class BadPlan(AirError):
    """A plan that does not fit the counts of its house."""


class Broken(AirError):
    """A plan that is at fault ahead of the hour from which it is mended."""

    def __init__(self, hour, room):
        AirError.__init__(self, f"the plan is at fault in hour {hour}, room {room}")
        self.hour = hour
        self.room = room


class NoPlan(AirError):
    """No plan is good: the pairs (hour, room) that lack air."""

    def __init__(self, short):
        AirError.__init__(self, f"no plan is good, air is short in {short}")
        # A copy, for what is handed in may be changed later.
        self.short = list(short)


class BadText(AirError):
    """A text that is not a house's: the number of the first wrong row."""

    def __init__(self, row):
        AirError.__init__(self, f"row {row} is not a house's")
        self.row = row
