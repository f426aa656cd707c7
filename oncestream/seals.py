"""Words as texts that can be read again, and seals, by which a text that was cut short is known."""

from oncestream.errors import BadText
from oncestream.reading import are_digits, behind_word, need_end, number_ahead_of, read_integer, read_number

FACTOR = 131
MODULUS = 99991
CHECK_SIGNS = 5

# The words that are one sign alone.
SINGLE = {"N": None, "T": True, "F": False}


def _plain_text(word):
    """The text of a word that is no tuple."""
    if isinstance(word, str):
        return f"t{len(word)}:{word}"
    if word is None:
        return "N"
    if isinstance(word, bool):
        return "T" if word else "F"
    return f"i{word};"


# Words and their texts may stand deep within one another: so both are gone through without a call within a call.


def word_text(word):
    """The text of a word."""
    # A list, which is no word, stands where a tuple ends.
    texts, waiting, end = [], [word], []
    while waiting:
        part = waiting.pop()
        if isinstance(part, tuple):
            texts.append("(")
            waiting.append(end)
            waiting.extend(part[::-1])
        else:
            texts.append(")" if isinstance(part, list) else _plain_text(part))
    return "".join(texts)


def _is_plain(text):
    """Whether all signs of a text are signs from the blank to ~."""
    return text.isascii() and text.isprintable()


def _read_number(text, at):
    """The integer of a word that stands here, and the place behind it."""
    found = number_ahead_of(text, at, ";")
    if found is not None:
        return found
    word, at = read_integer(text, at, len(text))
    return word, behind_word(text, at, ";")


def _read_signs(text, at):
    """The text of a word that stands here, its number of signs ahead, and the place behind it."""
    found = number_ahead_of(text, at, ":")
    if found is None:
        many, at = read_number(text, at, len(text))
        found = (many, behind_word(text, at, ":"))
    many, begin = found
    word = text[begin:begin + many]
    if not _is_plain(word):
        raise BadText(begin + [_is_plain(sign) for sign in word].index(False))
    if len(word) < many:
        raise BadText(len(text))
    return word, begin + many


def _read_plain(text, at):
    """A word that is no tuple, and the place behind it."""
    sign = text[at:at + 1]
    if sign == "i":
        return _read_number(text, at + 1)
    if sign == "t":
        return _read_signs(text, at + 1)
    if sign in SINGLE:
        return SINGLE[sign], at + 1
    raise BadText(at)


def read_word(text):
    """The word that a text tells; raises BadText if it tells none."""
    # What is read of each tuple that is not read whole yet, the outermost one first; the first of all is no tuple, but
    # holds the word itself when it is read whole.
    waiting, members, at = [], [], 0
    while len(waiting) > 0 or len(members) == 0:
        sign = text[at:at + 1]
        if sign == "(":
            waiting.append(members)
            members = []
            at += 1
        elif sign == ")" and len(waiting) > 0:
            word = tuple(members)
            members = waiting.pop()
            members.append(word)
            at += 1
        else:
            word, at = _read_plain(text, at)
            members.append(word)
    need_end(text, at)
    return members[0]


def check_of(text):
    """The check of a text: five digits by which a sign exchanged in it is known."""
    check = len(text)
    for sign in text:
        check = (check * FACTOR + ord(sign)) % MODULUS
    return str(check).zfill(CHECK_SIGNS)


def sealed(text):
    """A text with the number of its signs ahead of it and its check behind."""
    return f"{len(text)}:{text}{check_of(text)}"


def records(texts):
    """The text of all texts of a list, sealed, one behind another."""
    return "".join([sealed(text) for text in texts])


def _sealed_at(text, at):
    """The sealed text that stands at a place, and the place behind its seal; None if there is none."""
    begin = text.find(":", at) + 1
    number = text[at:max(at, begin - 1)]
    # A number with more digits than that of all signs is none of a text that stands here whole.
    if len(number) > len(str(len(text))) or not are_digits(number):
        return None
    end = begin + int(number)
    word = text[begin:end]
    if len(word) < end - begin or not _is_plain(word) or sealed(word) != text[at:end + CHECK_SIGNS]:
        return None
    return word, end + CHECK_SIGNS


def read_records(text):
    """The texts whose seals stand one behind another at the beginning, and what is left of the text behind them."""
    texts, at = [], 0
    found = _sealed_at(text, at)
    while found is not None:
        word, at = found
        texts.append(word)
        found = _sealed_at(text, at)
    return tuple(texts), text[at:]


def whole_seals(text):
    """A text without what is left behind the seals at its beginning."""
    return text[:len(text) - len(read_records(text)[1])]


def seals_by_length(text, at):
    """The pairs (seal, text in it) from a place on, where each seal was written whole, but perhaps the last one."""
    found, colon = [], text.find(":", at)
    while colon >= 0:
        end = colon + 1 + int(text[at:colon])
        if end + CHECK_SIGNS > len(text):
            break
        found.append((text[at:end + CHECK_SIGNS], text[colon + 1:end]))
        at = end + CHECK_SIGNS
        colon = text.find(":", at)
    return found
