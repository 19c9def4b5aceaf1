"""Calculations for the tests, written without the package and in other ways than there."""

from itertools import combinations, product


def times(left, right):
    """The product of two symbols as polynomials over bits, modulo x**4 + x + 1."""
    result = 0
    for bit in range(4):
        if right >> bit & 1:
            result ^= left << bit
    for bit in (6, 5, 4):
        if result >> bit & 1:
            result ^= 0b10011 << bit - 4
    return result


PRODUCTS = [[times(left, right) for right in range(16)] for left in range(16)]
INVERSES = [0] + [PRODUCTS[symbol].index(1) for symbol in range(1, 16)]


def evaluate(coefficients, at):
    """The value of a polynomial, by the scheme of Horner; the constant term comes first."""
    value = 0
    for coefficient in reversed(coefficients):
        value = PRODUCTS[value][at] ^ coefficient
    return value


def interpolate(points, at):
    """The value at a position of the polynomial of lowest degree through (position, value) pairs."""
    total = 0
    for position, value in points:
        for other, _ in points:
            if other != position:
                value = PRODUCTS[value][PRODUCTS[at ^ other][INVERSES[position ^ other]]]
        total ^= value
    return total


def known_indexes(received):
    return [at for at, entry in enumerate(received) if entry is not None]


def decoding_radius(received, check_count):
    return (check_count - received.count(None)) // 2


ALL_BLOCKS = {}


def all_blocks(data_count):
    """Every block of 16 symbols with so many data symbols; shorter blocks are beginnings of these."""
    if data_count not in ALL_BLOCKS:
        ALL_BLOCKS[data_count] = [
            tuple(evaluate(coefficients, at) for at in range(16))
            for coefficients in product(range(16), repeat=data_count)
        ]
    return ALL_BLOCKS[data_count]


def close_data(received, check_count):
    """The data of the close block, or None, by looking at every block there is."""
    if received.count(None) > check_count:
        return None
    radius = decoding_radius(received, check_count)
    data_count = len(received) - check_count
    known = known_indexes(received)
    for block in all_blocks(data_count):
        if sum(received[at] != block[at] for at in known) <= radius:
            return block[:data_count]
    return None


def is_valid_certificate(received, check_count, certificate):
    """Whether a list of entries of the required form is a valid certificate."""
    if received.count(None) > check_count:
        return True
    radius = decoding_radius(received, check_count)
    known = known_indexes(received)
    for entry in certificate:
        points = [(at, received[at]) for at in entry]
        if sum(received[at] != interpolate(points, at) for at in known) <= radius:
            return False
    entries = [set(entry) for entry in certificate]
    return all(
        any(entry.isdisjoint(chosen) for entry in entries)
        for chosen in combinations(known, radius)
    )


CHARACTERS = [chr(code) for code in range(32, 127) if code != 37]


def digit_mode_codes():
    codes = {(digit,): str(digit) for digit in range(10)}
    codes.update({(10,): " ", (11,): ".", (14,): "-"})
    codes.update({(13, number // 16, number % 16): CHARACTERS[number] for number in range(94)})
    return codes


def letter_mode_codes():
    codes = {(index,): character for index, character in enumerate("etaoinsrhldu ")}
    codes.update({(13, index): character for index, character in enumerate("cmfpgwybvkxjqz,'")})
    return codes


# For each mode: the characters by their codes, and the symbol that leads to the other mode.
CODES = (digit_mode_codes(), letter_mode_codes())
SWITCHES = (12, 14)


def read_symbols(symbols):
    """The message of symbols without an end symbol, or None if there is none."""
    text = ""
    mode = 0
    pending = ()
    for symbol in symbols:
        pending += (symbol,)
        if pending == (SWITCHES[mode],):
            mode = 1 - mode
            pending = ()
        elif pending in CODES[mode]:
            text += CODES[mode][pending]
            pending = ()
    return None if pending else text


def shortest_lists(text):
    """All shortest lists of symbols for a message, by looking at all lists that can begin one."""
    heads = [((), 0, 0, ())]
    while True:
        found = [list(symbols) for symbols, at, _, pending in heads if at == len(text) and not pending]
        if found:
            return found
        heads = [longer for head in heads for longer in longer_heads(head, text)]


def longer_heads(head, text):
    """What a head becomes by one more symbol: its symbols, characters, mode and unfinished code."""
    symbols, at, mode, pending = head
    for symbol in range(16):
        code = pending + (symbol,)
        if code == (SWITCHES[mode],):
            yield symbols + (symbol,), at, 1 - mode, ()
        elif CODES[mode].get(code) == text[at]:
            yield symbols + (symbol,), at + 1, mode, ()
        elif any(longer[:len(code)] == code and longer != code for longer in CODES[mode]):
            yield symbols + (symbol,), at, mode, code


def best_lists(text):
    """The smallest shortest list and the number of shortest lists, worked out from the front."""
    states = [{} for _ in range(len(text) + 1)]
    states[0][0] = ([], 1)
    for at in range(len(text) + 1):
        for mode in (0, 1):
            if mode in states[at]:
                symbols, count = states[at][mode]
                offer(states[at], 1 - mode, symbols + [SWITCHES[mode]], count)
        if at < len(text):
            for mode, (symbols, count) in states[at].items():
                for code, character in CODES[mode].items():
                    if character == text[at]:
                        offer(states[at + 1], mode, symbols + list(code), count)
    ends = list(states[-1].values())
    shortest = min(len(symbols) for symbols, _ in ends)
    ends = [(symbols, count) for symbols, count in ends if len(symbols) == shortest]
    return min(symbols for symbols, _ in ends), sum(count for _, count in ends)


def offer(states, mode, symbols, count):
    """Take a list for a state if it is as short as the lists there are."""
    old = states.get(mode)
    if old is None or len(symbols) < len(old[0]):
        states[mode] = (symbols, count)
    elif len(symbols) == len(old[0]):
        states[mode] = (min(symbols, old[0]), old[1] + count)
