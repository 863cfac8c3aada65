"""The errors that the program raises."""


class DriveFoldError(ValueError):
    """The base class of all errors that the program raises."""


class BadTerm(DriveFoldError):
    """A text is not the text of a term."""


class BadWord(DriveFoldError):
    """A word of a line is not what has to stand there."""


class BadPaper(DriveFoldError):
    """A text is not a paper."""


class TooLarge(DriveFoldError):
    """A residual program has too many lines, or a term of it is too large."""


class BadProgram(DriveFoldError):
    """A text is not the text of a program."""

    def __init__(self, line):
        super().__init__(f"wrong line of a program: {line}")
        self.line = line


class BadJournal(DriveFoldError):
    """A text is not the journal of a session."""

    def __init__(self, line):
        super().__init__(f"wrong line of a journal: {line}")
        self.line = line


class Refused(DriveFoldError):
    """A session does not make a move, or does not know a node."""

    def __init__(self, reason):
        super().__init__(f"refused: {reason}")
        self.reason = reason


class WrongPaper(DriveFoldError):
    """A row of a paper claims what does not hold."""

    def __init__(self, row):
        super().__init__(f"wrong row of a paper: {row}")
        self.row = row
