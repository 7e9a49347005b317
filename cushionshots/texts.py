"""Tables, shots and cushions as texts, and such texts read back (section 9)."""

from cushionshots.cones import are_cushions
from cushionshots.errors import InvalidCushions, InvalidShot, InvalidText
from cushionshots.places import check_table, is_any_shot, is_table


def format_table(table):
    """The text of a table."""
    check_table(table)
    return "x".join([written(number) for number in table])


def format_shot(shot):
    """The text of a shot on some table."""
    if not is_any_shot(shot):
        raise InvalidShot()
    return " ".join([written(number) for number in shot])


def format_cushions(cushions):
    """The text of a list of cushions."""
    if not are_cushions(cushions):
        raise InvalidCushions()
    return " ".join(cushions)


def parse_table(text):
    """The table that a text tells."""
    table = _numbers(_words(text, "x"))
    if not is_table(table):
        raise InvalidText()
    return table


def parse_shot(text):
    """The shot on some table that a text tells."""
    shot = _numbers(_words(text, " "))
    if not is_any_shot(shot):
        raise InvalidText()
    return shot


def parse_cushions(text):
    """The list of cushions that a text tells."""
    cushions = _words(text, " ")
    if not are_cushions(cushions):
        raise InvalidText()
    return cushions


def written(number):
    """An integer of any size in digits."""
    sign, rest = "", number
    if number < 0:
        sign, rest = "-", -number
    parts = []
    # Part by part, since Python refuses to write or to read some thousand digits at once.
    while rest >= 10 ** 64:
        parts.append(str(rest % 10 ** 64).zfill(64))
        rest = rest // 10 ** 64
    parts.append(str(rest))
    return sign + "".join(parts[::-1])


def _words(text, sign):
    """The words of a text between which a sign stands."""
    if not isinstance(text, str):
        raise InvalidText()
    return text.split(sign)


def _numbers(words):
    """The tuple of the integers that words tell."""
    return tuple([_number(word) for word in words])


def _number(word):
    """The integer that a word tells, of any size."""
    digits = word
    if word.startswith("-"):
        digits = word[1:]
    if not digits.isascii() or not digits.isdigit() or (digits[0] == "0" and word != "0"):
        raise InvalidText()
    first = len(digits) % 64
    number = int("0" + digits[:first])
    for at in range(first, len(digits), 64):
        number = number * 10 ** 64 + int(digits[at:at + 64])
    if digits == word:
        return number
    return -number
