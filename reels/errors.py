"""The refusals of the program."""


class ReelError(ValueError):
    """Any refusal."""


class BadTime(ReelError):
    """A text writes no time."""


class BadNote(ReelError):
    """A text writes no cues; line is the number, from 0, of the first line at fault."""

    def __init__(self, line):
        super().__init__(f"line {line} does not go on with the cues")
        self.line = line


class OffReel(ReelError):
    """A time lies outside of what is shown."""


class NoDeed(ReelError):
    """There is no deed to undo, or to do anew."""


class TooTight(ReelError):
    """No times keep the rule."""
