"""The transforms: each alone, several together, and what they make of the width."""

import itertools
import unittest

from losslook.pictures import look
from writer import COLOURS, GREENS, NO_FILE, PREDICTIONS, TABLE, Writer, looks


def up(number, side):
    return -(-number // side)


def put_squares(writer, kind, exponent, width, height, greens=(3, 9)):
    """A transform over squares, with as many elements as cover the picture."""
    writer.transform(kind).put(exponent, 3)
    group = writer.plain(list(greens), [1, 200], [5, 6, 7])
    side = 4 << exponent
    for k in range(up(width, side) * up(height, side)):
        writer.literal(group, greens[k % len(greens)], (1, 200)[k % 2], 5 + k % 3)


def put_table(writer, count):
    writer.transform(TABLE).put(count - 1, 8)
    group = writer.plain([1, 77], [0, 2], [8, 9, 10])
    for k in range(count):
        writer.literal(group, (1, 77)[k % 2], 2 * (k // 2 % 2), 8 + k % 3)


def packed_width(width, count):
    return up(width, 8 if count <= 2 else 4 if count <= 4 else 2 if count <= 16 else 1)


def put_own(writer, width, height):
    """So many elements, of two bits each."""
    group = writer.own([10, 20, 30, 40])
    writer.literals(group, [(10, 20, 30, 40)[k % 4] for k in range(width * height)])
    return writer


def transformed(width, height, kinds, count=5, exponent=0):
    """The picture with these transforms, in this order."""
    writer = Writer().head(width, height)
    narrow = width
    for kind in kinds:
        if kind == TABLE:
            put_table(writer, count)
            narrow = packed_width(narrow, count)
        elif kind == GREENS:
            writer.transform(kind)
        else:
            put_squares(writer, kind, exponent, narrow, height)
    return put_own(writer, narrow, height)


class Alone(unittest.TestCase):
    def test_squares(self):
        for kind in (PREDICTIONS, COLOURS):
            for width, height in ((1, 1), (4, 4), (5, 4), (4, 5), (17, 9), (16, 12)):
                self.assertEqual(looks(transformed(width, height, [kind])), [0, width, height])

    def test_each_side(self):
        for kind in (PREDICTIONS, COLOURS):
            for exponent in range(8):
                side = 4 << exponent
                for width, height in ((side, 1), (side + 1, 1), (1, side), (1, side + 1), (2 * side + 1, 2)):
                    writer = transformed(width, height, [kind], exponent=exponent)
                    self.assertEqual(looks(writer), [0, width, height])

    def test_greens(self):
        self.assertEqual(looks(transformed(6, 3, [GREENS])), [0, 6, 3])

    def test_tables(self):
        for count in (1, 2, 3, 4, 5, 15, 16, 17, 100, 255, 256):
            for width in (1, 2, 3, 4, 5, 7, 8, 9, 15, 16, 17, 33):
                self.assertEqual(looks(transformed(width, 3, [TABLE], count)), [0, width, 3])

    def test_a_table_cut_short(self):
        writer = Writer().head(1, 1).transform(TABLE).put(9, 8)
        group = writer.plain([1, 77])
        writer.literals(group, [77] * 9)
        writer.own([0])
        self.assertEqual(looks(writer), NO_FILE)

    def test_the_word_for_each(self):
        # Without a transform's picture what follows is read as it.
        for kind in (PREDICTIONS, COLOURS, TABLE):
            writer = Writer().head(6, 3).transform(kind)
            self.assertEqual(looks(put_own(writer, 6, 3)), NO_FILE)


class Modes(unittest.TestCase):
    def modes(self, greens, kind=PREDICTIONS):
        writer = Writer().head(4 * len(greens), 4)
        writer.transform(kind).put(0, 3)
        group = writer.plain(sorted(set(greens)), [255], [255], [0])
        for green in greens:
            writer.literal(group, green, 255, 255, 0)
        return put_own(writer, 4 * len(greens), 4)

    def test_each_mode(self):
        self.assertEqual(looks(self.modes(list(range(14)))), [0, 56, 4])
        for mode in range(14):
            self.assertEqual(looks(self.modes([mode])), [0, 4, 4])

    def test_above_13(self):
        for mode in (14, 15, 16, 128, 255):
            self.assertEqual(looks(self.modes([mode])), NO_FILE)
            self.assertEqual(looks(self.modes([13, mode])), NO_FILE)
            self.assertEqual(looks(self.modes([mode, 13, 0])), NO_FILE)
            self.assertEqual(looks(self.modes([0, 13, mode, 13])), NO_FILE)

    def test_colours_factors_may_be_any(self):
        for green in (0, 13, 14, 255):
            self.assertEqual(looks(self.modes([green, 3], COLOURS)), [0, 8, 4])

    def test_modes_that_come_back(self):
        for mode in (13, 14):
            writer = Writer().head(12, 4).transform(PREDICTIONS).put(0, 3)
            group = writer.plain([mode, 257], far=[1])
            writer.literal(group, mode).back(group, 2, 2)
            self.assertEqual(looks(put_own(writer, 12, 4)), [0, 12, 4] if mode == 13 else NO_FILE)


class Together(unittest.TestCase):
    def test_every_order(self):
        for many in range(5):
            for kinds in itertools.permutations((PREDICTIONS, COLOURS, GREENS, TABLE), many):
                for count in (2, 4, 16, 256):
                    self.assertEqual(looks(transformed(37, 5, kinds, count)), [0, 37, 5])

    def test_twice(self):
        for kind in (PREDICTIONS, COLOURS, GREENS, TABLE):
            self.assertEqual(looks(transformed(9, 5, [kind, kind])), NO_FILE)
            for other in (PREDICTIONS, COLOURS, GREENS, TABLE):
                self.assertEqual(looks(transformed(9, 5, [kind, other, kind])), NO_FILE)

    def test_five(self):
        for kind in (PREDICTIONS, COLOURS, GREENS, TABLE):
            self.assertEqual(looks(transformed(9, 5, [PREDICTIONS, COLOURS, GREENS, TABLE, kind])), NO_FILE)

    def test_the_narrower_width_counts_for_all_behind(self):
        # 33 wide is 5 packed; squares of 4 then take 2 across, and a row up is 5 back.
        writer = Writer().head(33, 2)
        put_table(writer, 2)
        put_squares(writer, PREDICTIONS, 0, 5, 2)
        writer.put(0, 2).put(1, 1).put(0, 3)
        group = writer.plain([0, 1])
        writer.literals(group, [0, 1])
        left = writer.group([1, 2, 256], far=[0])
        right = writer.group([1, 2, 3, 4])
        writer.literals(left, [1, 2, 1, 1]).literals(right, [4])
        for k in range(4):
            writer.back(left, 1, 1)
        writer.literals(right, [1])
        self.assertEqual(looks(writer), [0, 33, 2])

    def test_the_row_above_in_a_narrower_picture(self):
        # (0, 1) goes 5 back: from the fifth element it would reach before the beginning.
        for before, answer in ((5, [0, 33, 2]), (4, NO_FILE)):
            writer = Writer().head(33, 2)
            put_table(writer, 2)
            group = writer.own([1, 256], far=[0])
            writer.literals(group, [1] * before).back(group, 1, 1).literals(group, [1] * (9 - before))
            self.assertEqual(looks(writer), answer)

    def test_cut_at_each_byte(self):
        data = transformed(9, 5, [PREDICTIONS, TABLE, GREENS, COLOURS], 16).file()
        self.assertEqual(look(0, data), [0, 9, 5])
        for cut in range(len(data)):
            self.assertEqual(look(0, data[:cut]), NO_FILE)


if __name__ == "__main__":
    unittest.main()
