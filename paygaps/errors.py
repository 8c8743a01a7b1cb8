"""The refusals of the program."""


class PayError(ValueError):
    pass


class NoCoins(PayError):
    pass


class NoPaying(PayError):
    pass


class NoSum(PayError):
    pass


class Shared(PayError):
    def __init__(self, share):
        self.share = share


class TooMany(PayError):
    pass


class NoOne(PayError):
    pass


class NoGaps(PayError):
    pass


class Unclosed(PayError):
    def __init__(self, one, other):
        self.one = one
        self.other = other


class NoChange(PayError):
    pass


class TooLittle(PayError):
    pass
