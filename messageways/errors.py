"""The errors of the package."""


class MessagewaysError(ValueError):
    """What all errors of the package are."""


class TokenError(MessagewaysError):
    """At a place of a notation begins a thing that cannot stand there."""

    def __init__(self, place):
        super().__init__(f"what begins at place {place} cannot stand there")
        self.place = place


class EndError(MessagewaysError):
    """A notation ends where something lacks."""

    def __init__(self):
        super().__init__("the notation ends where something lacks")


class LineError(MessagewaysError):
    """A line of the text of a language breaks a rule."""

    def __init__(self, line):
        super().__init__(f"line {line} of the language breaks a rule")
        self.line = line


class BadMessage(MessagewaysError):
    """A name is asked for as a number and as a word."""

    def __init__(self, name):
        super().__init__(f"{name} is asked for as a number and as a word")
        self.name = name


class MissingArgument(MessagewaysError):
    """There is no argument for a name that is asked for."""

    def __init__(self, name):
        super().__init__(f"there is no argument {name}")
        self.name = name


class WrongArgument(MessagewaysError):
    """A select finds a number, or a plural a text."""

    def __init__(self, name):
        super().__init__(f"the argument {name} is of the wrong kind")
        self.name = name


class NoSuchPlace(MessagewaysError):
    """A path does not lead to a message."""

    def __init__(self, path):
        super().__init__(f"no message is at the path {path!r}")
        self.path = path


class NoSuchKey(MessagewaysError):
    """A book has no message under a key."""

    def __init__(self, key):
        super().__init__(f"no message has the key {key}")
        self.key = key


class PowerCut(MessagewaysError):
    """A device lost its power."""

    def __init__(self, written):
        super().__init__(f"the power went after {written} octets")
        self.written = written


class ShutError(MessagewaysError):
    """A journaled book is shut because its device lost its power."""

    def __init__(self):
        super().__init__("the book is shut")
