"""The refusals of the program, one class for each."""


class LearnError(ValueError):
    pass


class BadRules(LearnError):
    pass


class BadState(LearnError):
    pass


class Unlike(LearnError):
    pass


class BadNumber(LearnError):
    pass


class BadText(LearnError):
    pass
