"""The errors that the program raises."""


class AuthError(ValueError):
    """The base class of all errors that the program raises."""


class BadSchema(AuthError):
    """A fault in the text of a schema; the line is 0 if no single line is at fault."""

    def __init__(self, line, what):
        AuthError.__init__(self, f"line {line}: {what}")
        self.line = line
        self.what = what


class BadFeed(AuthError):
    """A fault in another text that is read."""

    def __init__(self, line, what):
        AuthError.__init__(self, f"line {line}: {what}")
        self.line = line
        self.what = what


class Refused(AuthError):
    """A call that is not carried out; the index is -1 where no number is concerned."""

    def __init__(self, what, index=-1):
        AuthError.__init__(self, f"{what} ({index})")
        self.what = what
        self.index = index
