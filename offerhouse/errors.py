"""The refusals: one class for each, all straight under OfferError."""


class OfferError(ValueError):
    pass


class NotOffered(OfferError):
    pass


class TooMany(OfferError):
    pass


class BadRule(OfferError):
    pass


class BadName(OfferError):
    pass


class BadLine(OfferError):
    pass


class NoOffer(OfferError):
    pass


class Twice(OfferError):
    pass


class Ring(OfferError):
    pass


class Leaned(OfferError):
    pass


class NothingBack(OfferError):
    pass
