"""Messages as lists of symbols."""

from squaremark.errors import InvalidMessage, InvalidSymbols
from squaremark.gf16 import is_symbol

# The index of a character is its number.
ALPHABET = " !\"#$&'()*+,-./0123456789:;<=>?@ABCDEFGHIJKLMNOPQRSTUVWXYZ[\\]^_`abcdefghijklmnopqrstuvwxyz{|}~"
LONGEST_MESSAGE = 200
END = 15

_DIGIT_MODE = 0
_LETTER_MODE = 1
# The symbol that switches to the other mode, for each mode.
_SWITCHES = (12, 14)
_ESCAPE = 13
# The index of a character is its symbol, or the symbol after _ESCAPE for the rare ones.
_DIGIT_CHARACTERS = "0123456789 ."
_HYPHEN = 14
_LETTER_CHARACTERS = "etaoinsrhldu "
_RARE_CHARACTERS = "cmfpgwybvkxjqz,'"


def encode_text(text):
    """Return the smallest of the shortest lists of symbols that encode a message."""
    require_message(text)
    rests = _measure_rests(text)
    symbols = []
    mode = _DIGIT_MODE
    for index, character in enumerate(text):
        ways = _shortest_ways(_list_ways(character, mode), rests[index + 1])
        # No two ways begin with the same symbol, so what follows cannot matter.
        written, mode = min(ways)
        symbols.extend(written)
    return symbols


def count_encodings(text):
    """Return the number of the shortest lists of symbols that encode a message."""
    require_message(text)
    _, count = _measure_rests(text)[0][_DIGIT_MODE]
    return count


def decode_symbols(symbols):
    """Return the message that a list or tuple of symbols encodes."""
    _require_symbols(symbols)
    characters = []
    mode = _DIGIT_MODE
    at = 0
    while at < len(symbols) and symbols[at] != END:
        if symbols[at] == _SWITCHES[mode]:
            mode = 1 - mode
            at += 1
        else:
            after = at + _count_symbols(symbols[at], mode)
            if after > len(symbols):
                raise InvalidSymbols(len(symbols))
            characters.append(_read_character(symbols, at, mode))
            at = after
    return "".join(characters)


def require_message(text):
    """Raise InvalidMessage if the argument is not a message."""
    if not isinstance(text, str):
        raise InvalidMessage(0)
    for index, character in enumerate(text):
        if index >= LONGEST_MESSAGE or character not in ALPHABET:
            raise InvalidMessage(index)


def _require_symbols(symbols):
    if not isinstance(symbols, (list, tuple)):
        raise InvalidSymbols(0)
    for index, symbol in enumerate(symbols):
        if not is_symbol(symbol):
            raise InvalidSymbols(index)


def _write_character(character, mode):
    """Return the symbols for a character in a mode, or the empty list if the mode has none."""
    if mode == _DIGIT_MODE:
        return _write_in_digit_mode(character)
    return _write_in_letter_mode(character)


def _write_in_digit_mode(character):
    if character in _DIGIT_CHARACTERS:
        return [_DIGIT_CHARACTERS.index(character)]
    if character == "-":
        return [_HYPHEN]
    number = ALPHABET.index(character)
    return [_ESCAPE, number >> 4, number & 15]


def _write_in_letter_mode(character):
    if character in _LETTER_CHARACTERS:
        return [_LETTER_CHARACTERS.index(character)]
    if character in _RARE_CHARACTERS:
        return [_ESCAPE, _RARE_CHARACTERS.index(character)]
    return []


def _list_ways(character, mode):
    """Return the ways to write a character, each as its symbols and the mode after them.

    A second switch would lead back: no shortest list contains it.
    """
    ways = []
    direct = _write_character(character, mode)
    if direct:
        ways.append((direct, mode))
    switched = _write_character(character, 1 - mode)
    if switched:
        ways.append(([_SWITCHES[mode]] + switched, 1 - mode))
    return ways


def _measure_rests(text):
    """Return what is to come at each index of a message, and at its end, in each mode.

    That is the least number of symbols for the rest of the message, and the number of
    ways to write the rest with so few.
    """
    rest = [(0, 1), (0, 1)]
    rests = [rest]
    for character in reversed(text):
        rest = [_measure_rest(_list_ways(character, mode), rest) for mode in (_DIGIT_MODE, _LETTER_MODE)]
        rests.append(rest)
    rests.reverse()
    return rests


def _measure_rest(ways, rest):
    least = 0
    total = 0
    for written, mode in _shortest_ways(ways, rest):
        length, count = rest[mode]
        least = len(written) + length
        total += count
    return least, total


def _shortest_ways(ways, rest):
    lengths = [len(written) + rest[mode][0] for written, mode in ways]
    return [way for way, length in zip(ways, lengths) if length == min(lengths)]


def _count_symbols(symbol, mode):
    """Return how many symbols the character has that begins with a symbol."""
    if symbol != _ESCAPE:
        return 1
    if mode == _DIGIT_MODE:
        return 3
    return 2


def _read_character(symbols, at, mode):
    if mode == _LETTER_MODE:
        return _read_in_letter_mode(symbols, at)
    return _read_in_digit_mode(symbols, at)


def _read_in_digit_mode(symbols, at):
    if symbols[at] == _HYPHEN:
        return "-"
    if symbols[at] != _ESCAPE:
        return _DIGIT_CHARACTERS[symbols[at]]
    number = 16 * symbols[at + 1] + symbols[at + 2]
    if number >= len(ALPHABET):
        raise InvalidSymbols(at + 2)
    return ALPHABET[number]


def _read_in_letter_mode(symbols, at):
    if symbols[at] == _ESCAPE:
        return _RARE_CHARACTERS[symbols[at + 1]]
    return _LETTER_CHARACTERS[symbols[at]]
