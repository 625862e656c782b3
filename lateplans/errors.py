"""The errors of the package: each one keeps the values that it is created with."""


class PlanError(ValueError):
    """What all errors of the package are."""


class AllKnown(PlanError):
    """There is nothing left to ask."""


class BadAnswer(PlanError):
    """An answer that no Plan gives."""

    def __init__(self, answer):
        self.answer = answer


class BadLine(PlanError):
    """A line, counted from 0, that is not written as it should be."""

    def __init__(self, number):
        self.number = number


class BadPair(PlanError):
    """A pair, by its place, that cannot stand in a Plan."""

    def __init__(self, place):
        self.place = place


class BadText(PlanError):
    """A piece of a text, counted from 0, that cannot stand there."""

    def __init__(self, piece):
        self.piece = piece


class Known(PlanError):
    """A NAME that is there already."""

    def __init__(self, name):
        self.name = name


class NoNumber(PlanError):
    """A number that nothing has."""

    def __init__(self, number):
        self.number = number


class NoPlace(PlanError):
    """A place that there is not."""

    def __init__(self, number):
        self.number = number


class NoPlan(PlanError):
    """A NAME that no Plan has."""

    def __init__(self, name):
        self.name = name


class NoWork(PlanError):
    """A NAME that no work has."""

    def __init__(self, name):
        self.name = name


class NothingDone(PlanError):
    """There is nothing to take back."""


class OtherWorks(PlanError):
    """Works, or numbers of them, that do not go together."""
