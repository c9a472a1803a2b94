"""The errors of the package; each keeps what it was made of in attributes."""


class SayError(Exception):
    """The base of all errors of this package."""


class InvalidText(SayError):
    """A text, or a line of it, has no form from the place `at` on."""

    def __init__(self, at):
        self.at = at


class InvalidSaying(SayError):
    """The saying numbered `at` is none."""

    def __init__(self, at):
        self.at = at


class InvalidSheet(SayError):
    """The sheet numbered `at` is none."""

    def __init__(self, at):
        self.at = at


class InvalidFilling(SayError):
    """The pair `at` of a filling is none."""

    def __init__(self, at):
        self.at = at


class InvalidMakers(SayError):
    """The maker `at` is none."""

    def __init__(self, at):
        self.at = at


class InvalidRules(SayError):
    """The rule `at` is none."""

    def __init__(self, at):
        self.at = at


class InvalidBook(SayError):
    """A value is no book."""

    def __init__(self, at):
        self.at = at


class InvalidRow(SayError):
    """The row `at` is none."""

    def __init__(self, at):
        self.at = at


class InvalidPremises(SayError):
    """The premise `at` is none."""

    def __init__(self, at):
        self.at = at


class InvalidProof(SayError):
    """The part `at` of a proof has no form."""

    def __init__(self, at):
        self.at = at


class InvalidFacts(SayError):
    """The fact `at` is none."""

    def __init__(self, at):
        self.at = at


class InvalidLot(SayError):
    """The lot, or its member `at`, is none."""

    def __init__(self, at):
        self.at = at


class InvalidWorld(SayError):
    """A value is no world."""

    def __init__(self, at):
        self.at = at


class InvalidSigned(SayError):
    """A value, or the argument `at` of a signed book, is none."""

    def __init__(self, at):
        self.at = at


class InvalidIndex(SayError):
    """An index is out of reach."""

    def __init__(self, at):
        self.at = at


class Refused(SayError):
    """What is asked can't be had; `at` tells what stands against it."""

    def __init__(self, at):
        self.at = at


class InvalidSize(SayError):
    """The argument, or the measure, called `word` is out of bounds."""

    def __init__(self, word):
        self.word = word


class NoMaker(SayError):
    """A book has no maker of this name."""

    def __init__(self, name):
        self.name = name


class NoRule(SayError):
    """A book has no rule of this number."""

    def __init__(self, number):
        self.number = number


class NotCalm(SayError):
    """The rules `right` and `left` of one maker are both awake in `row`."""

    def __init__(self, right, left, row):
        self.right = right
        self.left = left
        self.row = row


class InvalidCommand(SayError):
    """A command has no form."""
