"""A small writer of files, for the tests alone: it says what is told, right or wrong."""

from losslook.pictures import look, read

LENGTH_ORDER = (17, 18, 0, 1, 2, 3, 4, 5, 16, 6, 7, 8, 9, 10, 11, 12, 13, 14, 15)
NO_FILE = [-3]
TOO_LARGE = [-4]
OUT_OF_RANGE = [-2]
TOO_LITTLE_ROOM = [-1]
GREATEST_MOST = 4194304
PREDICTIONS, COLOURS, GREENS, TABLE = 0, 1, 2, 3
FIRST, RED, BLUE, ALPHA, FAR = 0, 1, 2, 3, 4


def full_lengths(symbols):
    """A length for each symbol, as even as they can be, so that the words fill all."""
    count = len(symbols)
    if count == 1:
        return {symbol: 1 for symbol in symbols}
    short = count.bit_length() - 1
    longer = 2 * (count - (1 << short))
    return {symbol: short + (1 if place >= count - longer else 0)
            for place, symbol in enumerate(sorted(symbols))}


def words_of(lengths):
    """The words of a code, as lists of bits in the order in which they come."""
    used = sorted((length, symbol) for symbol, length in lengths.items() if length)
    if len(used) == 1:
        return {used[0][1]: []}
    words, word, before = {}, 0, 0
    for length, symbol in used:
        word <<= length - before
        before = length
        words[symbol] = [word >> k & 1 for k in reversed(range(length))]
        word += 1
    return words


def value_parts(value):
    """The symbol of a length or distance, and the number and width of its bits."""
    if value <= 4:
        return value - 1, 0, 0
    rest = value - 1
    extra = rest.bit_length() - 2
    return 2 * extra + 2 + (rest >> extra & 1), rest & (1 << extra) - 1, extra


def slot_of(depth, green, red=0, blue=0, alpha=255):
    colour = ((alpha * 256 + red) * 256 + green) * 256 + blue
    return (0x1E35A7BD * colour) % (1 << 32) // (1 << (32 - depth))


class Writer:
    def __init__(self):
        self.bits = []

    def put(self, number, width):
        self.bits.extend(number >> k & 1 for k in range(width))
        return self

    def word(self, code, symbol):
        self.bits.extend(code[symbol])
        return self

    def head(self, width, height, alphas=0, zeros=0):
        return self.put(width - 1, 14).put(height - 1, 14).put(alphas, 1).put(zeros, 3)

    def one(self, symbol, wide=True):
        self.put(0b001 | wide << 2, 3).put(symbol, 8 if wide else 1)
        return {symbol: []}

    def two(self, first, second, wide=True):
        self.put(0b011 | wide << 2, 3).put(first, 8 if wide else 1).put(second, 8)
        return words_of({first: 1, second: 1})

    def length_code(self, lengths, told=19):
        self.put(0, 1).put(told - 4, 4)
        for symbol in LENGTH_ORDER[:told]:
            self.put(lengths.get(symbol, 0), 3)
        return words_of(lengths)

    def most(self, number=None, exponent=None):
        if number is None:
            return self.put(0, 1)
        if exponent is None:
            exponent = max(0, ((number - 2).bit_length() - 1) // 2)
        return self.put(1, 1).put(exponent, 3).put(number - 2, 2 + 2 * exponent)

    def steps(self, steps, number=None, exponent=None):
        """Lengths, step by step: a length, or a pair of 16, 17 or 18 and how many times."""
        pairs = [step if isinstance(step, tuple) else (step, None) for step in steps]
        code = self.length_code(full_lengths({symbol for symbol, times in pairs}))
        self.most(number, exponent)
        for symbol, times in pairs:
            self.word(code, symbol)
            if times is not None:
                least, width = {16: (3, 2), 17: (3, 3), 18: (11, 7)}[symbol]
                self.put(times - least, width)
        return self

    def lengths(self, size, lengths):
        self.steps([lengths.get(symbol, 0) for symbol in range(size)])
        return words_of(lengths)

    def code(self, size, symbols):
        if len(symbols) == 1 and symbols[0] < 256:
            return self.one(symbols[0])
        if len(symbols) == 2 and max(symbols) < 256:
            return self.two(*symbols)
        return self.lengths(size, full_lengths(symbols))

    def group(self, first, red=(0,), blue=(0,), alpha=(255,), far=(0,), depth=0):
        sizes = (280 + (1 << depth if depth else 0), 256, 256, 256, 40)
        return [self.code(size, symbols) for size, symbols in zip(sizes, (first, red, blue, alpha, far))]

    def plain(self, first, red=(0,), blue=(0,), alpha=(255,), far=(0,), depth=0):
        """The beginning of a coded picture other than the elements' own."""
        self.cache(depth)
        return self.group(first, red, blue, alpha, far, depth)

    def own(self, first, red=(0,), blue=(0,), alpha=(255,), far=(0,), depth=0):
        """The beginning of the elements' own coded picture, with one group."""
        self.put(0, 1)
        self.cache(depth)
        self.put(0, 1)
        return self.group(first, red, blue, alpha, far, depth)

    def cache(self, depth):
        return self.put(1, 1).put(depth, 4) if depth else self.put(0, 1)

    def literal(self, group, green, red=0, blue=0, alpha=255):
        self.word(group[FIRST], green).word(group[RED], red)
        return self.word(group[BLUE], blue).word(group[ALPHA], alpha)

    def literals(self, group, greens):
        for green in greens:
            self.literal(group, green)
        return self

    def colours(self, colours, own=True):
        """A coded picture of these colours (red, green, blue, alpha), each told by itself, in one group."""
        parts = [sorted({colour[part] for colour in colours}) for part in (1, 0, 2, 3)]
        group = self.own(*parts) if own else self.plain(*parts)
        for red, green, blue, alpha in colours:
            self.literal(group, green, red, blue, alpha)
        return self

    def squares(self, kind, exponent, colours):
        """A transform over squares of these colours."""
        return self.transform(kind).put(exponent, 3).colours(colours, own=False)

    def table(self, differences):
        return self.transform(TABLE).put(len(differences) - 1, 8).colours(differences, own=False)

    def cached(self, group, slot):
        return self.word(group[FIRST], 280 + slot)

    def back(self, group, length, value):
        symbol, number, width = value_parts(length)
        self.word(group[FIRST], 256 + symbol).put(number, width)
        symbol, number, width = value_parts(value)
        return self.word(group[FAR], symbol).put(number, width)

    def transform(self, kind):
        return self.put(1, 1).put(kind, 2)

    def octets(self, fill=0):
        bits = self.bits + [fill] * (-len(self.bits) % 8)
        return [sum(bit << k for k, bit in enumerate(bits[place:place + 8])) for place in range(0, len(bits), 8)]

    def file(self, fill=0):
        return framed(self.octets(fill))


def bytes_of(number):
    return [number >> shift & 255 for shift in (0, 8, 16, 24)]


def framed(octets, riff="RIFF", webp="WEBP", kind="VP8L", sign=0x2F, padding=0, more_s=0, more_k=0):
    k = 1 + len(octets)
    odd = [padding] if k % 2 else []
    return (list(map(ord, riff)) + bytes_of(12 + k + len(odd) + more_s) + list(map(ord, webp + kind))
            + bytes_of(k + more_k) + [sign] + octets + odd)


def looks(writer):
    """What look answers, where the bits that fill the last byte make no difference."""
    answer = look(0, writer.file(0))
    other = look(0, writer.file(1))
    return answer if answer == other else [answer, other]


def reads(writer, most=GREATEST_MOST):
    """What read answers, where the bits that fill the last byte make no difference."""
    answer = read(most, writer.file(0))
    other = read(most, writer.file(1))
    return answer if answer == other else [answer, other]


def told(colours):
    """The answer that tells these colours."""
    return [4 * len(colours)] + [part for colour in colours for part in colour]


def uniform(width, height):
    """A picture whose elements take no bits."""
    writer = Writer().head(width, height)
    writer.own([7])
    return writer
