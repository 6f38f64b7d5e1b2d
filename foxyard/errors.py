"""The refusals, one class for each; all of them are YardErrors."""


class YardError(ValueError):
    pass


class NoYards(YardError):
    pass


class BadYard(YardError):
    pass


class TwiceTold(YardError):
    pass


class AtAnEnd(YardError):
    pass


class NoLane(YardError):
    pass
