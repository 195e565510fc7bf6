"""The refusals, one class each, and how a file's form is demanded."""


class NoImage(Exception):
    pass


class BadFile(Exception):
    pass


class BadBase(Exception):
    pass


class UnknownName(Exception):
    pass


class NotWanted(Exception):
    pass


def demand(held):
    if not held:
        raise BadFile()
