"""The errors that the package raises."""


class MixedError(ValueError):
    """What all errors of the package are; it is raised nowhere itself."""


class NoCommand(MixedError):
    """A text that is no command."""

    def __init__(self, line):
        self.line = line


class NoName(MixedError):
    """A NAME under which nothing stands."""

    def __init__(self, name):
        self.name = name


class NoText(MixedError):
    """A text with a line, told by its index, at which it is not as it has to be."""

    def __init__(self, line):
        self.line = line


class NotRight(MixedError):
    """Something that has faults."""

    def __init__(self, faults):
        self.faults = faults


class Nothing(MixedError):
    """There is nothing of what was asked for."""


class TooMany(MixedError):
    """More came about than is looked at."""

    def __init__(self, most):
        self.most = most


class Wrong(MixedError):
    """An argument, told by its place, that is not as described."""

    def __init__(self, place):
        self.place = place
