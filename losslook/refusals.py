"""The refusals, one error class for each."""


class NoSuchFile(Exception):
    pass


class TooLarge(Exception):
    pass
