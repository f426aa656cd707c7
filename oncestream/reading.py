"""What all readers of texts share: each reads from a place on, and returns what it has read and the place behind it.

What has been read can always be gone on with: so the first sign that does not fit stands at the place that is told.
"""

from oncestream.errors import BadText

DIGITS = "0123456789"


def _agreed(text, at, word):
    """How many signs of the word stand at this place."""
    many = 0
    while many < len(word) and text[at + many:at + many + 1] == word[many]:
        many += 1
    return many


def read_one_of(text, at, words):
    """The one that stands here of these words, of which none is a beginning of another."""
    for word in words:
        if text.startswith(word, at):
            return word, at + len(word)
    raise BadText(at + max([_agreed(text, at, word) for word in words]))


def behind_word(text, at, word):
    """The place behind the word that must stand here."""
    return read_one_of(text, at, [word])[1]


def run_end(text, at, signs, most):
    """The place behind the signs of this sort that stand here, at most so many."""
    end = at
    while end < len(text) and end < at + most and text[end] in signs:
        end += 1
    return end


def are_digits(text):
    """Whether a text is digits, and there are any."""
    return text.isdigit() and text.isascii()


def read_number(text, at, most):
    """An integer from 0 on, of at most so many digits."""
    # A nought ahead of other digits would be needless, so it ends the number.
    end = run_end(text, at, DIGITS, 1 if text[at:at + 1] == "0" else most)
    if end == at:
        raise BadText(at)
    return int(text[at:end]), end


def number_ahead_of(text, at, sign):
    """The integer from 0 on that stands here right ahead of this sign, and the place behind it; None if none does."""
    end = text.find(sign, at)
    digits = text[at:max(at, end)]
    if not digits.isdigit() or not digits.isascii() or (digits[0] == "0" and len(digits) > 1):
        return None
    return int(digits), end + 1


def read_integer(text, at, most):
    """An integer of at most so many digits, with a - ahead if it is below 0."""
    if text[at:at + 1] != "-":
        return read_number(text, at, most)
    if text[at + 1:at + 2] == "0":
        raise BadText(at + 1)
    number, end = read_number(text, at + 1, most)
    return -number, end


def need_end(text, at):
    """Raises BadText if anything stands here still."""
    if at < len(text):
        raise BadText(at)
