"""What a call answers when it refuses: one error class for each refusal."""


class Refusal(Exception):
    """Carries all the numbers that the refusing call answers."""

    def __init__(self, answered):
        self.answered = answered


class WrongNumber(Refusal):
    """A number of the call is out of its bounds."""

    def __init__(self):
        Refusal.__init__(self, [-1])


class TooLong(Refusal):
    """A text has more bytes than one may have."""

    def __init__(self):
        Refusal.__init__(self, [-2])


class NotALinkage(Refusal):
    """What would come of the call is no linkage."""

    def __init__(self):
        Refusal.__init__(self, [-3])


class NotClosed(Refusal):
    """The figure that is asked for doesn't close."""

    def __init__(self):
        Refusal.__init__(self, [-3])


class NoSuchLine(Refusal):
    """A line that is named isn't there, or two that must differ are one."""

    def __init__(self):
        Refusal.__init__(self, [-4])


class NameTaken(Refusal):
    """A name that would be given is another line's."""

    def __init__(self):
        Refusal.__init__(self, [-5])


class TextFault(Refusal):
    """A text is no linkage's; so many bytes stand before its fault."""

    def __init__(self, place):
        Refusal.__init__(self, [-6, 1, place])


class NoLinkageYet(Refusal):
    """The call needs a linkage, and none has been made."""

    def __init__(self):
        Refusal.__init__(self, [-9])
