"""The errors that probers raise beside InvalidIndex (stage 19)."""

from anyfont.errors import AnyfontError


class AlreadySeen(AnyfontError):
    """An answer of a probe was seen already, or another one."""

    def __init__(self, index):
        AnyfontError.__init__(self, "an answer of this probe was seen already")
        self.index = index


class InvalidAnswer(AnyfontError):
    """A value is not an answer of the question of a probe."""

    def __init__(self, answer):
        AnyfontError.__init__(self, "this is not an answer of the question of the probe")
        self.answer = answer


class NoAgreement(AnyfontError):
    """No font would agree with all that is seen, as a refutation shows."""

    def __init__(self, refutation):
        AnyfontError.__init__(self, "no font would agree with all that is seen")
        self.refutation = refutation
