"""The refusals, one error class for each."""


class TooLittleRoom(Exception):
    pass


class OutOfRange(Exception):
    pass


class NoSuchFile(Exception):
    pass


class TooLarge(Exception):
    pass
