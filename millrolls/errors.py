"""The errors of the package."""


class MillrollsError(ValueError):
    """What every error of the package is."""


class LineError(MillrollsError):
    """A text has a wrong line, the first one at this number."""

    def __init__(self, line):
        # No message of words: to write out a number of any size could itself fail.
        self.line = line


class PowerCut(MillrollsError):
    """A device lost its power when it had so many octets."""

    def __init__(self, written):
        self.written = written


class BadPattern(MillrollsError):
    """What was to be cut is no pattern of the mill, or not 1 to 255 rolls."""


class BadOrder(MillrollsError):
    """What was to be ordered is no order of the mill."""


class ShutError(MillrollsError):
    """A journaled book was called after its power went."""
