"""The refusals of the document, one class for each error code."""


class Refusal(Exception):
    """A call that is answered by an error code alone."""

    def __init__(self, code):
        Exception.__init__(self, code)
        self.code = code


class NotCreated(Refusal):
    """Another call than create came before create."""

    def __init__(self):
        Refusal.__init__(self, -11)


class NoSuchSlot(Refusal):
    """The slot doesn't exist."""

    def __init__(self):
        Refusal.__init__(self, -2)


class ZeroPolynomial(Refusal):
    """The polynomial is zero."""

    def __init__(self):
        Refusal.__init__(self, -33)


class OutOfRange(Refusal):
    """A parameter is outside its range."""

    def __init__(self):
        Refusal.__init__(self, -22)


class NoSuchRoot(Refusal):
    """The polynomial has too few roots."""

    def __init__(self):
        Refusal.__init__(self, -34)


class TooLarge(Refusal):
    """The result has a degree, a numerator or a denominator that can't be stored."""

    def __init__(self):
        Refusal.__init__(self, -75)
