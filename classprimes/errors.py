"""The errors of the package, one class for each kind of failure."""


class ClassError(ValueError):
    """What all errors of the package stand under."""


class InvalidDiscriminant(ClassError):
    """No discriminant."""

    def __init__(self, given):
        super().__init__("no discriminant")
        self.given = given


class InvalidForm(ClassError):
    """No FORM."""

    def __init__(self, given):
        super().__init__("no FORM")
        self.given = given


class InvalidChange(ClassError):
    """No CHANGE."""

    def __init__(self, given):
        super().__init__("no CHANGE")
        self.given = given


class InvalidNumber(ClassError):
    """No number that is let here."""

    def __init__(self, given):
        super().__init__("no number that is let here")
        self.given = given


class InvalidPrime(ClassError):
    """No prime that is let here."""

    def __init__(self, given):
        super().__init__("no prime that is let here")
        self.given = given


class InvalidStep(ClassError):
    """Neither 2 nor 3."""

    def __init__(self, given):
        super().__init__("neither 2 nor 3")
        self.given = given


class InvalidCurve(ClassError):
    """No CURVE."""

    def __init__(self, given):
        super().__init__("no CURVE")
        self.given = given


class OtherDiscriminant(ClassError):
    """A FORM of another discriminant."""

    def __init__(self, given):
        super().__init__("a FORM of another discriminant")
        self.given = given


class Divides(ClassError):
    """A prime that divides the discriminant."""

    def __init__(self, given):
        super().__init__("a prime that divides the discriminant")
        self.given = given


class NoSquare(ClassError):
    """A number at which the symbol is not 1."""

    def __init__(self, given):
        super().__init__("a number at which the symbol is not 1")
        self.given = given


class NotFirst(ClassError):
    """A prime that the first form does not take."""

    def __init__(self, given):
        super().__init__("a prime that the first form does not take")
        self.given = given


class InvalidLines(ClassError):
    """No tuple of lines."""

    def __init__(self, index):
        super().__init__("no tuple of lines")
        self.index = index


class BadText(ClassError):
    """No text of the language."""

    def __init__(self, spot):
        super().__init__("no text of the language")
        self.spot = spot
