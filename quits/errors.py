"""The refusals, one class for each.

Each stands right under QuitsError and none under another, so that whoever takes one refusal never takes a second one
with it.
"""


class QuitsError(ValueError):
    pass


class NoPart(QuitsError):
    pass


class Ringed(QuitsError):
    pass


class NoAnswer(QuitsError):
    pass


class NoRule(QuitsError):
    pass


class TooMuch(QuitsError):
    pass


class NoLayer(QuitsError):
    pass


class NoMember(QuitsError):
    pass


class NoTerms(QuitsError):
    pass


class NoDeal(QuitsError):
    pass


class Closed(QuitsError):
    pass


class Gone(QuitsError):
    pass


class Settled(QuitsError):
    pass


class Standing(QuitsError):
    pass


class Out(QuitsError):
    pass


class Bare(QuitsError):
    pass


class Poor(QuitsError):
    pass


class Unclosed(QuitsError):
    pass
