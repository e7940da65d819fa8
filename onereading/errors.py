"""The refusals of the program, each directly under CodeError."""


class CodeError(ValueError):
    """Any refusal."""


class BadCode(CodeError):
    """What is handed in as the words of a code is no list."""


class Full(CodeError):
    """A code has no place for so many words."""


class BadWord(CodeError):
    """What is handed in as a word is none."""


class Twice(CodeError):
    """A word is in the code already."""


class NotThere(CodeError):
    """A word is not in the code."""


class NoNumber(CodeError):
    """No parting of the text has that number."""


class NoWait(CodeError):
    """The code has no wait."""


class BadSign(CodeError):
    """What is handed in as a sign is none."""


class NoReading(CodeError):
    """What a reader keeps cannot be read."""
