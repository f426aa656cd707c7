"""All errors of the package; the other files import those that they raise."""


def _copy_of(value):
    """A copy of any value, in which lists and dicts are new ones, however deep they stand."""
    if isinstance(value, list):
        return [_copy_of(member) for member in value]
    if isinstance(value, tuple):
        return tuple([_copy_of(member) for member in value])
    if isinstance(value, dict):
        return {key: _copy_of(value[key]) for key in value}
    return value


# Each error hands a text of its own upwards: Python would else keep the very arguments with it, not copies.


class StreamError(ValueError):
    """What all errors of the package are."""


class BadValue(StreamError):
    """A value is none of those that are asked."""

    def __init__(self):
        super().__init__("no such value")


class BadQuery(StreamError):
    """A query has a fault: the number of the pair, and the word for what is wrong with it."""

    def __init__(self, number, word):
        super().__init__(f"pair {number}: {word}")
        self.number = _copy_of(number)
        self.word = _copy_of(word)


class BadText(StreamError):
    """A text can't be read: the number of signs that can still be the beginning of one that can."""

    def __init__(self, place):
        super().__init__(f"place {place}")
        self.place = _copy_of(place)


class BadInput(StreamError):
    """One of several things that are passed does not fit the others: its place."""

    def __init__(self, place):
        super().__init__(f"place {place}")
        self.place = _copy_of(place)


class BadScript(StreamError):
    """A script can't be played: the number of the event at which it fails."""

    def __init__(self, number):
        super().__init__(f"event {number}")
        self.number = _copy_of(number)


class BadBarrier(StreamError):
    """A barrier comes that can't come now: its number."""

    def __init__(self, number):
        super().__init__(f"barrier {number}")
        self.number = _copy_of(number)


class Blocked(StreamError):
    """Nothing can go on."""

    def __init__(self):
        super().__init__("nothing can go on")


class NothingDone(StreamError):
    """There is nothing to take back or to do again."""

    def __init__(self):
        super().__init__("nothing to take back or to do again")


class BadDisk(StreamError):
    """What stands on a disk is not what can have been written there: its place."""

    def __init__(self, place):
        super().__init__(f"place {place}")
        self.place = _copy_of(place)
