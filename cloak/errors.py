"""The errors that the program raises."""


class CloakError(ValueError):
    """The base class of all errors of the program."""


class NotAllowed(CloakError):
    """An argument is not what the function may be called with."""


class BadForm(CloakError):
    """A text, a paper or another message does not have its form."""


class BadPaper(CloakError):
    """A message has its form, but is not right."""


class Missing(CloakError):
    """What is asked for is not there."""


class Used(CloakError):
    """Something that may come up once came up again."""


class Full(CloakError):
    """There is no room for one more."""


class Down(CloakError):
    """A device has no power left."""
