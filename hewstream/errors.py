"""The refusals of the program."""


class StreamError(ValueError):
    """The base of all refusals; what is raised is one of the classes below."""


class NotValid(StreamError):
    """An argument is outside of its bounds."""


class TooMany(StreamError):
    """A told number is passed."""


class BadByte(StreamError):
    """At this byte no continuation is a text any more."""

    def __init__(self, place):
        self.place = place


class TooDeep(StreamError):
    """At this byte the text gets deeper than is read."""

    def __init__(self, place):
        self.place = place


class NotDocument(StreamError):
    """At this event no continuation is a valid document any more."""

    def __init__(self, number):
        self.number = number


class BadText(StreamError):
    """The text of a schema, a content or a program is none from here on."""

    def __init__(self, line, place):
        self.line = line
        self.place = place
