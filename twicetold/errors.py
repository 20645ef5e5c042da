"""The refusals of deeds, one class for each; `words` is the text that the deed is answered with."""


class Refused(Exception):
    """What all refusals stand under, so that whoever answers a deed can take any of them."""

    def __init__(self, words):
        Exception.__init__(self, words)
        self.words = words


class NoPosting(Refused):
    """No posting with that number was told yet."""

    def __init__(self):
        Refused.__init__(self, "no posting")


class Struck(Refused):
    """The posting is struck already."""

    def __init__(self):
        Refused.__init__(self, "struck")


class SameAccount(Refused):
    """Both accounts of a posting are the same."""

    def __init__(self):
        Refused.__init__(self, "same account")


class NoAmount(Refused):
    """An amount is below one."""

    def __init__(self):
        Refused.__init__(self, "no amount")


class Closed(Refused):
    """A deed touches a closed day."""

    def __init__(self):
        Refused.__init__(self, "closed")


class NoDays(Refused):
    """The first day of a sheet is later than the last."""

    def __init__(self):
        Refused.__init__(self, "no days")


class NotYet(Refused):
    """An hour that is asked for is below nought or later than the hour that it is."""

    def __init__(self):
        Refused.__init__(self, "not yet")
