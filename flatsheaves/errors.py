"""The errors of Flatsheaves."""


class FlatError(ValueError):
    """The base of all errors of Flatsheaves."""


class KindError(FlatError):
    """A program is not well typed."""


class TrapError(FlatError):
    """An operation or an instruction has no result for its numbers."""


class PaperError(FlatError):
    """A step of a rewriting is not accepted; `at` is the index of the step."""

    def __init__(self, at):
        super().__init__(f"step {at} is not accepted")
        self.at = at
