"""Codes of symbols: short ones, and those with coded lengths."""

import unittest

from writer import NO_FILE, Writer, full_lengths, looks, words_of

CHAIN = {**{symbol: symbol + 1 for symbol in range(15)}, 15: 15}


def squares_file(put_green, greens, groups):
    """A row of squares with these greens, by the code that put_green writes, and so many groups."""
    writer = Writer().head(4 * len(greens), 4)
    writer.put(0, 2).put(1, 1).put(0, 3).cache(0)
    code = put_green(writer)
    rest = [writer.one(0), writer.one(0), writer.one(255), writer.one(0)]
    writer.literals([code] + rest, greens)
    for group in range(groups):
        writer.group([0])
    return writer


def file_with(place, put_code):
    """A picture of one element; put_code writes its group's code at that place."""
    writer = Writer().head(1, 1).put(0, 3)
    for code in range(5):
        if code == place:
            put_code(writer)
        else:
            writer.one(0)
    return writer


class OracleTest(unittest.TestCase):
    def check_words(self, put_green, symbols):
        """As many groups are there as the greatest says: so every word's symbol shows."""
        for symbol in symbols:
            self.assertEqual(looks(squares_file(put_green, [symbol], symbol + 1)), [0, 4, 4])
            self.assertEqual(looks(squares_file(put_green, [symbol], symbol + 2)), NO_FILE)
            self.assertEqual(looks(squares_file(put_green, [symbol], symbol)), NO_FILE)
        writer = squares_file(put_green, list(symbols), max(symbols) + 1)
        self.assertEqual(looks(writer), [0, 4 * len(symbols), 4])


class ShortCodes(OracleTest):
    def test_one_symbol(self):
        for symbol in (0, 1, 2, 127, 128, 255):
            self.check_words(lambda writer: writer.one(symbol), [symbol])

    def test_one_symbol_of_one_bit(self):
        for symbol in (0, 1):
            self.check_words(lambda writer: writer.one(symbol, wide=False), [symbol])

    def test_two_symbols_in_either_order(self):
        for first, second in ((0, 1), (1, 0), (3, 200), (200, 3), (255, 0), (0, 255)):
            self.check_words(lambda writer: writer.two(first, second), [first, second])

    def test_two_symbols_with_a_first_of_one_bit(self):
        for first, second in ((0, 1), (1, 0), (1, 77), (0, 77)):
            self.check_words(lambda writer: writer.two(first, second, wide=False), [first, second])

    def test_two_symbols_alike(self):
        for place in range(5):
            for symbol in (0, 1, 39):
                writer = file_with(place, lambda writer: writer.put(0b111, 3).put(symbol, 8).put(symbol, 8))
                self.assertEqual(looks(writer.put(0, 2)), NO_FILE)
            for symbol in (0, 1):
                writer = file_with(place, lambda writer: writer.put(0b011, 3).put(symbol, 1).put(symbol, 8))
                self.assertEqual(looks(writer), NO_FILE)

    def test_distances_that_there_are(self):
        for symbol in (0, 38, 39):
            self.assertEqual(looks(file_with(4, lambda writer: writer.one(symbol))), [0, 1, 1])
        for first, second in ((0, 39), (39, 0), (38, 39)):
            self.assertEqual(looks(file_with(4, lambda writer: writer.two(first, second))), [0, 1, 1])

    def test_distances_that_there_are_not(self):
        for symbol in (40, 41, 64, 255):
            self.assertEqual(looks(file_with(4, lambda writer: writer.one(symbol))), NO_FILE)
            for other in (0, 39, 42):
                self.assertEqual(looks(file_with(4, lambda writer: writer.two(symbol, other))), NO_FILE)
                self.assertEqual(looks(file_with(4, lambda writer: writer.two(other, symbol))), NO_FILE)

    def test_all_256_symbols_are_there_elsewhere(self):
        for place in range(4):
            self.assertEqual(looks(file_with(place, lambda writer: writer.one(255))), [0, 1, 1])


class Words(OracleTest):
    def test_shorter_first_then_by_symbols(self):
        for lengths in ({0: 1, 1: 2, 2: 2}, {0: 2, 1: 1, 2: 2}, {0: 2, 1: 2, 2: 1}, {9: 1, 200: 1},
                        {3: 3, 4: 1, 7: 3, 8: 2}, {5: 2, 6: 2, 7: 2, 255: 2}, {9: 3, 1: 2, 2: 3, 60: 2, 3: 2},
                        CHAIN, {15 - symbol: length for symbol, length in CHAIN.items()}):
            self.check_words(lambda writer: writer.lengths(280, lengths), lengths)

    def test_all_symbols_of_eight_bits(self):
        lengths = full_lengths(range(256))
        self.assertEqual(set(lengths.values()), {8})
        self.check_words(lambda writer: writer.lengths(280, lengths), [0, 1, 100, 254, 255])

    def test_one_symbol_alone_takes_no_bits(self):
        for length in range(1, 16):
            for symbol in (0, 1, 77):
                self.check_words(lambda writer: writer.lengths(280, {symbol: length}), [symbol])


class Fullness(unittest.TestCase):
    def check(self, lengths, full):
        for place, size in enumerate((280, 256, 256, 256, 40)):
            words = words_of(lengths) if full else {}
            writer = file_with(place, lambda writer: writer.lengths(size, lengths))
            if place < 4:
                # The element's symbol is the first word.
                writer.put(0, min((len(word) for word in words.values()), default=0))
            self.assertEqual(looks(writer), [0, 1, 1] if full else NO_FILE)

    def test_full(self):
        for lengths in ({0: 1, 1: 1}, {0: 1, 1: 2, 2: 2}, {k: 2 for k in range(4)}, {k: 5 for k in range(32)}, CHAIN,
                        {3: 9}):
            self.check(lengths, True)

    def test_not_full(self):
        for lengths in ({0: 1, 1: 2}, {0: 2, 1: 2, 2: 2}, {0: 15, 1: 15}, {k: 5 for k in range(31)}, {0: 1, 1: 2, 2: 3},
                        {**CHAIN, 15: 0}, {}):
            self.check(lengths, False)

    def test_too_full(self):
        for lengths in ({0: 1, 1: 1, 2: 1}, {0: 1, 1: 1, 2: 15}, {0: 1, 1: 2, 2: 2, 3: 2}, {k: 5 for k in range(33)},
                        {**CHAIN, 16: 15}, {k: 1 for k in range(4)}, {k: 1 for k in range(40)}):
            self.check(lengths, False)

    def test_no_length_at_all(self):
        for place in range(5):
            writer = file_with(place, lambda writer: writer.length_code({0: 1}) and writer.most())
            self.assertEqual(looks(writer), NO_FILE)


class CodeOfLengths(OracleTest):
    def put(self, lengths, told, steps):
        def put_green(writer):
            code = writer.length_code(lengths, told)
            writer.most(len(steps))
            for step in steps:
                writer.word(code, step)
            return words_of(dict(enumerate(steps)))
        return put_green

    def test_each_number_told(self):
        order = (17, 18, 0, 1, 2, 3, 4, 5, 16, 6, 7, 8, 9, 10, 11, 12, 13, 14, 15)
        for told in range(5, 20):
            last = order[told - 1]
            # The last one told is a symbol of its own: it would be missed if one fewer were read.
            lengths = {0: 1, 1: 2, last: 2} if last not in (0, 1) else {0: 1, 1: 1}
            self.check_words(self.put(lengths, told, [1, 0, 1]), [0, 2])
            if 1 < last < 16:
                deep = [1] + list(range(2, last + 1)) + [last]
                lengths = full_lengths([symbol for symbol in order[:told] if symbol <= last])
                if set(deep) <= set(lengths):
                    self.check_words(self.put(lengths, told, deep), range(len(deep)))

    def test_four_told(self):
        self.check_words(self.put({0: 1, 1: 1}, 4, [1, 0, 1]), [0, 2])

    def test_deep_words(self):
        self.check_words(self.put({0: 1, 1: 2, 2: 3, 3: 4, 4: 5, 5: 6, 16: 7, 17: 7}, 19, [1, 2, 0, 3, 4, 5, 5]),
                         [0, 1, 3, 4, 5, 6])

    def test_one_symbol_alone(self):
        for length in range(1, 8):
            self.check_words(self.put({2: length}, 19, [2, 2, 2, 2]), [0, 1, 2, 3])

    def test_not_full_or_too_full(self):
        for lengths in ({}, {0: 1, 1: 2}, {0: 2, 1: 2, 2: 2}, {0: 7, 1: 7}, {0: 1, 1: 1, 2: 1}, {0: 1, 1: 1, 2: 7},
                        {symbol: 4 for symbol in range(15)}, {symbol: 4 for symbol in range(17)}):
            for place in range(5):
                writer = file_with(place, lambda writer: writer.length_code(lengths) and None)
                self.assertEqual(looks(writer.put(0, 100)), NO_FILE)
                # Even where what follows would be a right code by the first words.
                writer = Writer().head(1, 1).put(0, 3)
                for code in range(place):
                    writer.one(0)
                writer.length_code(lengths)
                writer.most(2).put(0b1010, 4)
                for code in range(4 - place):
                    writer.one(0)
                self.assertEqual(looks(writer), NO_FILE)

    def test_just_full(self):
        lengths = {symbol: 4 for symbol in range(16)}
        self.check_words(self.put(lengths, 19, [1, 0, 2, 2]), [0, 2, 3])


class Runs(OracleTest):
    def check(self, steps, lengths, number=None, symbols=None):
        def put_green(writer):
            writer.steps(steps, number)
            return words_of(lengths)
        self.check_words(put_green, symbols or list(lengths))

    def test_zeros_3_to_10_times(self):
        for times in range(3, 11):
            self.check([1, (17, times), 1], {0: 1, 1 + times: 1}, number=3)

    def test_zeros_11_to_138_times(self):
        for times in (11, 12, 75, 137, 138):
            self.check([1, (18, times), 1], {0: 1, 1 + times: 1}, number=3)

    def test_the_last_length_3_to_6_times(self):
        self.check([2, (16, 3)], {0: 2, 1: 2, 2: 2, 3: 2}, number=2)
        self.check([3, 3, 3, (16, 5)], {k: 3 for k in range(8)}, number=4)
        self.check([3, 3, 3, 3, (16, 4)], {k: 3 for k in range(8)}, number=5)
        self.check([3, 3, (16, 6)], {k: 3 for k in range(8)}, number=3)

    def test_the_last_length_at_first(self):
        steps = [(16, 6)] * 42 + [(16, 4)]
        self.check(steps, {symbol: 8 for symbol in range(256)}, number=43, symbols=[0, 1, 128, 255])
        # Zeros ahead don't change it.
        steps = [(17, 3)] + steps
        self.check(steps, {symbol: 8 for symbol in range(3, 259)}, number=44, symbols=[3, 4, 128, 255])

    def test_the_last_length_that_was_not_0(self):
        self.check([2, (17, 5), (16, 3)], {0: 2, 6: 2, 7: 2, 8: 2}, number=3)
        self.check([2, 0, (16, 3)], {0: 2, 2: 2, 3: 2, 4: 2}, number=3)
        self.check([2, (18, 20), (16, 3)], {0: 2, 21: 2, 22: 2, 23: 2}, number=3)

    def test_a_last_length_of_1(self):
        # With eight bits each, as at first, these would fill all: they have one.
        steps = [1] + [(16, 6)] * 20 + [(16, 4)] * 2
        self.assertEqual(looks(file_with(1, lambda writer: writer.steps(steps, len(steps))).put(0, 1)), NO_FILE)

    def test_the_last_length_stays_behind_a_run(self):
        self.check([3, (16, 3), (16, 4)], {k: 3 for k in range(8)}, number=3)
        self.check([1, 3, 0, (16, 3)], {0: 1, 1: 3, 3: 3, 4: 3, 5: 3}, number=4)

    def test_all_lengths_without_a_number(self):
        self.check([1, 1, (18, 138), (18, 138), 0, 0], {0: 1, 1: 1})
        self.check([1, (18, 138), 1, (18, 138), 0, 0], {0: 1, 139: 1})
        self.check([1, (18, 138), 1, (18, 138), 0, 0], {0: 1, 139: 1}, number=280)

    def test_runs_to_the_very_last_symbol_and_past_it(self):
        for kind, times, lengths in ((16, 3, [2]), (17, 7, [1, 1]), (18, 30, [1, 1])):
            for past in (0, 1):
                rest = 40 - len(lengths) - times + past
                steps = [0] * (rest if kind == 16 else 0) + lengths
                steps = steps + ([0] * (rest if kind != 16 else 0)) + [(kind, times)]
                writer = file_with(4, lambda writer: writer.steps(steps))
                self.assertEqual(looks(writer), [0, 1, 1] if past == 0 else NO_FILE)

    def test_runs_past_each_code(self):
        for place, size in enumerate((280, 256, 256, 256, 40)):
            for past in (0, 1, 10):
                writer = file_with(place, lambda writer: writer.steps(
                    [1] + [0] * (size - 12 + past) + [(18, 11)]))
                self.assertEqual(looks(writer), [0, 1, 1] if past == 0 else NO_FILE)


class NumberTold(OracleTest):
    def check_number(self, place, number, exponent, steps, good):
        writer = file_with(place, lambda writer: writer.steps(steps, number, exponent))
        self.assertEqual(looks(writer), [0, 1, 1] if good else NO_FILE)

    def test_each_width(self):
        for exponent in range(8):
            self.check_number(1, 2, exponent, [1, 0], True)
            self.check_number(1, 5, exponent, [1, 0, 0, 0, 0], True)
        for exponent in range(3, 8):
            self.check_number(1, 200, exponent, [1] + [0] * 199, True)

    def test_as_many_as_there_are_and_one_more(self):
        for place, size in enumerate((280, 256, 256, 256, 40)):
            self.check_number(place, size - 1, 4, [1] + [0] * (size - 2), True)
            self.check_number(place, size, 4, [1] + [0] * (size - 1), True)
            # A run makes the lengths whole ahead of the number: it counts all the same.
            self.check_number(place, size, 4, [1] + [0] * (size - 12) + [(18, 11)], True)
            self.check_number(place, size + 1, 4, [1] + [0] * (size - 1), False)
            self.check_number(place, size + 1, 4, [1] + [0] * (size - 12) + [(18, 11)], False)
            self.check_number(place, 65537, 7, [1] + [0] * (size - 12) + [(18, 11)], False)

    def test_missing_lengths_are_0(self):
        def put_green(writer):
            writer.steps([0, 0, 1, 2, 2], 5)
            return words_of({2: 1, 3: 2, 4: 2})
        self.check_words(put_green, [2, 3, 4])

    def test_a_number_that_cuts_a_code_short(self):
        self.check_number(1, 3, 0, [2, 2, 2, 2], False)
        self.check_number(1, 2, 0, [0, 0], False)


class CacheSymbols(unittest.TestCase):
    def test_the_first_code_has_the_caches_size(self):
        for depth in range(1, 12):
            for past in (0, 1):
                size = 280 + (1 << depth)
                writer = Writer().head(1, 1).put(0, 1).cache(depth).put(0, 1)
                runs = (size - 12) // 138
                steps = [1] + [(18, 138)] * runs + [0] * ((size - 12) % 138 + past) + [(18, 11)]
                writer.steps(steps)
                for code in range(4):
                    writer.one(0)
                self.assertEqual(looks(writer), [0, 1, 1] if past == 0 else NO_FILE)


if __name__ == "__main__":
    unittest.main()
