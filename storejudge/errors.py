"""The refusals: one class for each, all under JudgeError."""


class JudgeError(ValueError):
    """Any refusal."""


class NoProblem(JudgeError):
    """A problem was asked, and this is none."""


class NoPromise(JudgeError):
    """A promise was asked, and this is none."""


class NoStore(JudgeError):
    """A store was asked, and this is none."""


class NoText(JudgeError):
    """This text, or these words, show nothing of what was asked."""


class NoLine(JudgeError):
    """The desk knows no such row."""


class NoHistory(JudgeError):
    """A history was asked, and this is none; at tells where it fails, -1 for the whole."""

    def __init__(self, at):
        JudgeError.__init__(self, f"no history: at {at}")
        self.at = at
