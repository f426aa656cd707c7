"""Words as texts that can be read again, and seals, by which a text that was cut short is known."""

from oncestream.errors import BadText
from oncestream.reading import DIGITS, behind_word, need_end, read_integer, read_number

FACTOR = 131
MODULUS = 99991
CHECK_SIGNS = 5

# The words that are one sign alone.
SINGLE = {"N": None, "T": True, "F": False}


def _plain_text(word):
    """The text of a word that is no tuple."""
    if word is None:
        return "N"
    if isinstance(word, bool):
        return "T" if word else "F"
    return f"t{len(word)}:{word}" if isinstance(word, str) else f"i{word};"


# Words and their texts may stand deep within one another: so both are gone through without a call within a call.


def word_text(word):
    """The text of a word."""
    texts, waiting = [], [(True, word)]
    while waiting:
        is_word, part = waiting.pop()
        if not is_word:
            texts.append(part)
        elif isinstance(part, tuple):
            texts.append("(")
            waiting.append((False, ")"))
            waiting.extend([(True, member) for member in part[::-1]])
        else:
            texts.append(_plain_text(part))
    return "".join(texts)


def _plain_end(text, begin, end):
    """The place, at most end, behind the signs from the blank to ~ that stand from begin on."""
    at = begin
    while at < end and at < len(text) and " " <= text[at] <= "~":
        at += 1
    return at


def _read_plain(text, at):
    """A word that is no tuple, and the place behind it."""
    sign = text[at:at + 1]
    if sign in SINGLE:
        return SINGLE[sign], at + 1
    if sign == "i":
        word, at = read_integer(text, at + 1, len(text))
        return word, behind_word(text, at, ";")
    if sign != "t":
        raise BadText(at)
    many, at = read_number(text, at + 1, len(text))
    begin = behind_word(text, at, ":")
    end = _plain_end(text, begin, begin + many)
    if end < begin + many:
        raise BadText(end)
    return text[begin:end], end


def read_word(text):
    """The word that a text tells; raises BadText if it tells none."""
    # What is read of each tuple that is not read whole yet, the outermost one first; ahead of them the word itself,
    # which comes there only when it is read whole.
    waiting, at = [[]], 0
    while len(waiting[0]) == 0:
        sign = text[at:at + 1]
        if sign == "(":
            waiting.append([])
            at += 1
        elif sign == ")" and len(waiting) > 1:
            members = waiting.pop()
            waiting[-1].append(tuple(members))
            at += 1
        else:
            word, at = _read_plain(text, at)
            waiting[-1].append(word)
    need_end(text, at)
    return waiting[0][0]


def check_of(text):
    """The check of a text: five digits by which a sign exchanged in it is known."""
    check = len(text)
    for sign in text:
        check = (check * FACTOR + ord(sign)) % MODULUS
    return str(check).zfill(CHECK_SIGNS)


def sealed(text):
    """A text with the number of its signs ahead of it and its check behind."""
    return f"{len(text)}:{text}{check_of(text)}"


def records(texts):
    """The text of all texts of a list, sealed, one behind another."""
    return "".join([sealed(text) for text in texts])


def _sealed_at(text, at):
    """The sealed text that stands at a place, and the place behind its seal; None if there is none."""
    begin = text.find(":", at) + 1
    number = text[at:max(at, begin - 1)]
    # A number with more digits than that of all signs is none of a text that stands here whole.
    if not 0 < len(number) <= len(str(len(text))) or not all(sign in DIGITS for sign in number):
        return None
    end = begin + int(number)
    word = text[begin:end]
    if _plain_end(text, begin, end) < end or sealed(word) != text[at:end + CHECK_SIGNS]:
        return None
    return word, end + CHECK_SIGNS


def read_records(text):
    """The texts whose seals stand one behind another at the beginning, and what is left of the text behind them."""
    texts, at = [], 0
    found = _sealed_at(text, at)
    while found is not None:
        word, at = found
        texts.append(word)
        found = _sealed_at(text, at)
    return tuple(texts), text[at:]


def whole_seals(text):
    """A text without what is left behind the seals at its beginning."""
    return text[:len(text) - len(read_records(text)[1])]
