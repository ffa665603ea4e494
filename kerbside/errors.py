"""The errors that the program raises."""


class KerbError(ValueError):
    """The base class of all errors of the program."""


class NotAllowed(KerbError):
    """An argument breaks a rule or a limit."""


class BadForm(KerbError):
    """A text is not the text of what it should be read as."""


class BadPaper(KerbError):
    """A paper, an answer or a bill does not show what it should show."""


class Missing(KerbError):
    """Something that is named is not there."""


class Never(KerbError):
    """No history, reading or explanation is possible."""


class Endless(KerbError):
    """The values that are asked for have no end."""


class Full(KerbError):
    """There is no room for more."""
