"""Texts that are nearly right, and the places that are told of them, held against the grammar."""

from oncestream.errors import BadText
from tests import earley


def place(read, text):
    """The place that is told of a text that can't be read, None of one that can."""
    try:
        read(text)
    except BadText as error:
        return error.place
    return None


class Around:
    """What tests of readers share; start names what a text must be by the grammar."""

    def check(self, start, read, write, sets, text):
        awaited = earley.place_of(start, sets, text)
        self.assertEqual(place(read, text), awaited, text)
        if awaited is None:
            self.assertEqual(write(read(text)), text)

    def check_around(self, start, read, write, text, signs):
        """Each beginning of a text, and the text with a sign left out, put in and exchanged at each place."""
        sets = earley.sets_of(start, text)
        for at in range(len(text) + 1):
            ahead = sets[:at + 1]
            self.check(start, read, write, ahead, text[:at])
            self.check(start, read, write, ahead, text[:at] + text[at + 1:])
            for sign in signs:
                self.check(start, read, write, ahead, text[:at] + sign + text[at:])
                self.check(start, read, write, ahead, text[:at] + sign + text[at + 1:])
