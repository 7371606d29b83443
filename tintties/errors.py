"""The refusals: each has a class of its own right under TintError, so that none is taken for another."""


class TintError(ValueError):
    pass


class NoStep(TintError):
    pass


class NotClean(TintError):
    pass


class NoTie(TintError):
    pass


class NotAlike(TintError):
    pass


class NoText(TintError):
    pass


class NoName(TintError):
    pass


class NoMeeting(TintError):
    pass


class NotTwoSided(TintError):
    def __init__(self, ring):
        self.ring = ring


class NotPlain(TintError):
    def __init__(self, pair):
        self.pair = pair


class TooFew(TintError):
    def __init__(self, need):
        self.need = need


class TooGreat(TintError):
    def __init__(self, most):
        self.most = most
