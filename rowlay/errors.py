"""The refusals: one class for each, all below LayError."""


class LayError(ValueError):
    pass


class BadWeb(LayError):
    pass


class BadOrder(LayError):
    pass


class BadSpot(LayError):
    pass


class BadKind(LayError):
    pass


class BadText(LayError):
    pass
