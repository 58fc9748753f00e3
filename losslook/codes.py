"""Codes of symbols: how they are told, and how their words are read."""

from losslook.refusals import NoSuchFile

LONGEST = 15
LENGTH_SYMBOLS = (17, 18, 0, 1, 2, 3, 4, 5, 16, 6, 7, 8, 9, 10, 11, 12, 13, 14, 15)


class Code:
    # words[n] holds the symbols whose words have n bits, in the words' order.
    def __init__(self, words, sole):
        self.words = words
        self.sole = sole

    def next_symbol(self, bits):
        if self.sole is not None:
            return self.sole
        # The rank is the word's distance from the first word of its length.
        # The words fill all that there is, so some length takes it.
        length = 1
        rank = bits.bit()
        while rank >= len(self.words[length]):
            rank = 2 * (rank - len(self.words[length])) + bits.bit()
            length += 1
        return self.words[length][rank]


def code_of_lengths(lengths):
    words = [[] for length in range(LONGEST + 1)]
    for symbol, length in enumerate(lengths):
        words[length].append(symbol)
    # A length of 0 is no word.
    used = len(lengths) - len(words[0])
    words[0] = []
    if used == 1:
        return Code(words, lengths.index(max(lengths)))
    filled = sum([len(symbols) << (LONGEST - length) for length, symbols in enumerate(words)])
    if filled != 1 << LONGEST:
        raise NoSuchFile()
    return Code(words, None)


def read_code(bits, size):
    if bits.bit() == 1:
        return read_short_code(bits, size)
    return code_of_lengths(read_lengths(bits, size))


def read_short_code(bits, size):
    two = bits.bit()
    first_width = 8 if bits.bit() == 1 else 1
    first = bits.number(first_width)
    if first >= size:
        raise NoSuchFile()
    if two == 0:
        return Code([[], [first]], first)
    second = bits.number(8)
    if second >= size or second == first:
        raise NoSuchFile()
    return Code([[], [min(first, second), max(first, second)]], None)


def read_lengths(bits, size):
    code = read_code_of_lengths(bits)
    left = read_most_symbols(bits, size)
    if code.sole is not None and code.sole <= LONGEST:
        # Such lengths take no bits, so a file can tell very many of them: they are not read one by one.
        return [code.sole] * left
    lengths = []
    last = 8
    while left > 0 and len(lengths) < size:
        left -= 1
        symbol = code.next_symbol(bits)
        if symbol > LONGEST:
            lengths.extend(read_run(bits, symbol, last))
        else:
            lengths.append(symbol)
            last = symbol if symbol > 0 else last
    if len(lengths) > size:
        raise NoSuchFile()
    return lengths


def read_code_of_lengths(bits):
    told = bits.number(4) + 4
    lengths = [0 for symbol in LENGTH_SYMBOLS]
    for symbol in LENGTH_SYMBOLS[:told]:
        lengths[symbol] = bits.number(3)
    return code_of_lengths(lengths)


def read_most_symbols(bits, size):
    if bits.bit() == 0:
        return size
    number_width = 2 + 2 * bits.number(3)
    most = bits.number(number_width) + 2
    if most > size:
        raise NoSuchFile()
    return most


def read_run(bits, symbol, last):
    if symbol == 16:
        return [last] * (3 + bits.number(2))
    if symbol == 17:
        return [0] * (3 + bits.number(3))
    return [0] * (11 + bits.number(7))
