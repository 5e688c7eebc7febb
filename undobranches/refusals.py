"""The refusals of operations, one class for each, and their codes."""


class Refusal(Exception):
    """An operation that can't be carried out and has changed nothing."""

    def __init__(self, code):
        Exception.__init__(self, code)
        self.code = code


class OutOfRange(Refusal):
    """An argument is out of range."""

    def __init__(self):
        Refusal.__init__(self, -1)


class NoSuchState(Refusal):
    """There is no state with this number."""

    def __init__(self):
        Refusal.__init__(self, -2)


class SeveralChanges(Refusal):
    """A state with more than one change is to be reverted."""

    def __init__(self):
        Refusal.__init__(self, -4)


class RevertedTextTooLong(Refusal):
    """A revert would make the text too long."""

    def __init__(self):
        Refusal.__init__(self, -5)


class TextTooLong(Refusal):
    """A change would make the text too long."""

    def __init__(self):
        Refusal.__init__(self, -6)


class NotOnThePath(Refusal):
    """The root, or a state beside the path from it to the current state, is to be reverted."""

    def __init__(self):
        Refusal.__init__(self, -6)


class NowhereToGo(Refusal):
    """There is no state to go to."""

    def __init__(self):
        Refusal.__init__(self, -7)


class RegionOverlapped(Refusal):
    """A later change overlaps the region of the one that is to be reverted."""

    def __init__(self):
        Refusal.__init__(self, -8)


class WrongForGroup(Refusal):
    """A group is open where none may be, or none is where one must be."""

    def __init__(self):
        Refusal.__init__(self, -9)
