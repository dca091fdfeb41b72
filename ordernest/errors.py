"""The refusals: one class for each, all below NestError."""


# Any refusal.
class NestError(ValueError):
    pass


class BadOrder(NestError):
    pass


class BadBook(NestError):
    pass


# Two books that are not of as many things.
class Unlike(NestError):
    pass


class BadRule(NestError):
    pass


class BadNumber(NestError):
    pass


class BadWeights(NestError):
    pass


class BadText(NestError):
    pass
