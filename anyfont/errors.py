"""The errors that the package raises."""


class AnyfontError(ValueError):
    """The base of all errors of the package."""


class InvalidName(AnyfontError):
    """A value is not a name, or not the name of a label."""

    def __init__(self, name):
        AnyfontError.__init__(self, "this is not a name, or no label has it")
        self.name = name


class NameInUse(AnyfontError):
    """A label has this name already."""

    def __init__(self, name):
        AnyfontError.__init__(self, "a label has this name already")
        self.name = name


class DeskFull(AnyfontError):
    """A desk has as many labels as it may have."""

    def __init__(self, limit):
        AnyfontError.__init__(self, "the desk holds no further label")
        self.limit = limit


class InvalidIndex(AnyfontError):
    """A value is not an index of what was asked for."""

    def __init__(self, index):
        AnyfontError.__init__(self, "there is nothing at this index")
        self.index = index


class InvalidLabel(AnyfontError):
    """A value is not a label for the letters; takes a message."""


class InvalidFact(AnyfontError):
    """A value cannot be a further fact; takes a message."""


class NoFont(AnyfontError):
    """No font would fit; takes a message."""
