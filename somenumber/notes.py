"""Notes: statements written as texts, and read from them."""

from somenumber.errors import NoNote
from somenumber.statements import BINDING, OVER_SUMS

MOST_WITHIN = 40
MOST_FIGURES = 60
MOST_LETTERS = 8
FIGURES = "0123456789"
LETTERS = "abcdefghijklmnopqrstuvwxyz"
# Python refuses to write great numbers at once, so they are written in pieces.
PIECE = 60
PIECE_END = 10 ** 60


def written(statement):
    """Tell a statement's text."""
    words = []
    _write(statement, words)
    return " ".join(words)


def read(text):
    """Tell the statement of a text that written tells; NoNote for another text."""
    words = text.split(" ")
    statement, at = _read_statement(words, 0, 1)
    if at != len(words):
        raise NoNote("words stand behind the statement")
    return statement


def _write(statement, words):
    kind = statement[0]
    words.append(kind)
    if kind == "goes":
        words.append(_figures(statement[1]))
    if kind in OVER_SUMS:
        _write_sum(statement[-1], words)
    elif kind == "not":
        _write(statement[1], words)
    elif kind in BINDING:
        words.append(statement[1])
        _write(statement[2], words)
    else:
        words.append(_figures(len(statement[1])))
        for part in statement[1]:
            _write(part, words)


def _write_sum(one, words):
    words.append(_figures(one[0]))
    for name, many in one[1]:
        words.append(_figures(many))
        words.append(name)
    words.append(";")


def _figures(number):
    rest = abs(number)
    pieces = []
    while rest >= PIECE_END:
        rest, piece = divmod(rest, PIECE_END)
        pieces.append(str(piece).zfill(PIECE))
    pieces.append(str(rest))
    if number < 0:
        pieces.append("-")
    return "".join(reversed(pieces))


def _read_statement(words, at, within):
    """Tell the statement that begins at a word, and the place behind it."""
    if within > MOST_WITHIN:
        raise NoNote("too many statements stand within one another")
    kind = _word(words, at)
    at += 1
    if kind in ("above", "nought"):
        one, at = _read_sum(words, at)
        return (kind, one), at
    if kind == "goes":
        divisor = _number(_word(words, at))
        if divisor < 1:
            raise NoNote("a number of goes is below 1")
        one, at = _read_sum(words, at + 1)
        return (kind, divisor, one), at
    if kind == "not":
        part, at = _read_statement(words, at, within + 1)
        return (kind, part), at
    if kind in BINDING:
        name = _name(_word(words, at))
        part, at = _read_statement(words, at + 1, within + 1)
        return (kind, name, part), at
    if kind in ("and", "or"):
        return _read_parts(kind, words, at, within)
    raise NoNote("no statement begins with this word")


def _read_parts(kind, words, at, within):
    count = _number(_word(words, at))
    if count < 0:
        raise NoNote("a count is below 0")
    at += 1
    parts = []
    # A count may be far greater than the text is long: the first word that lacks ends this.
    while len(parts) < count:
        part, at = _read_statement(words, at, within + 1)
        parts.append(part)
    return (kind, tuple(parts)), at


def _read_sum(words, at):
    """Tell the sum that begins at a word, and the place behind it."""
    number = _number(_word(words, at))
    at += 1
    parts = []
    while _word(words, at) != ";":
        many = _number(words[at])
        name = _name(_word(words, at + 1))
        if many == 0:
            raise NoNote("a share is 0")
        if parts and parts[-1][0] >= name:
            raise NoNote("names of a sum do not rise")
        parts.append((name, many))
        at += 2
    return (number, tuple(parts)), at + 1


def _word(words, at):
    if at >= len(words):
        raise NoNote("words lack")
    return words[at]


def _number(word):
    figures = word[1:] if word.startswith("-") else word
    if not 1 <= len(figures) <= MOST_FIGURES:
        raise NoNote("a number has no figures or too many")
    for sign in figures:
        if sign not in FIGURES:
            raise NoNote("a number is not written in figures")
    if figures.startswith("0") and word != "0":
        raise NoNote("a number begins with 0")
    return int(word)


def _name(word):
    if not 1 <= len(word) <= MOST_LETTERS:
        raise NoNote("a name has no letters or too many")
    for sign in word:
        if sign not in LETTERS:
            raise NoNote("a name is not written in small letters")
    return word
