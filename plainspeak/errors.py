"""The refusals. Each stands under SpeakError itself, so that none is caught as another."""


class SpeakError(ValueError):
    pass


class BadText(SpeakError):
    # Only the text goes to the base, so that the place doesn't show in the error's own text.
    def __init__(self, text, at=0):
        SpeakError.__init__(self, text)
        self.at = at


class NoName(SpeakError):
    # Only the text goes to the base, so that the name doesn't show in the error's own text.
    def __init__(self, text, name=""):
        SpeakError.__init__(self, text)
        self.name = name


class Unfit(SpeakError):
    pass


class TooLong(SpeakError):
    pass


class NotDone(SpeakError):
    pass


class NoRoom(SpeakError):
    pass


class NoMachine(SpeakError):
    pass


class BadRow(SpeakError):
    pass
