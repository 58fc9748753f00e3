"""Several transforms in one file, undone the last one first, each in the width that it was read in."""

import itertools
import unittest

from forward import differences, noisy, squares_count, transformed
from writer import COLOURS, GREENS, PREDICTIONS, TABLE, Writer, reads, told

KINDS = (PREDICTIONS, COLOURS, GREENS, TABLE)


def steps_of(kinds, width, height, count, exponent=0):
    """What each of these transforms is told with, in their order."""
    steps = []
    for kind in kinds:
        squares = squares_count(width, height, exponent)
        if kind == PREDICTIONS:
            steps.append((kind, exponent, [(3 * k + 11) % 14 for k in range(squares)]))
        elif kind == COLOURS:
            steps.append((kind, exponent, [colour[:3] for colour in noisy(squares, 9)]))
        elif kind == GREENS:
            steps.append((kind,))
        else:
            steps.append((kind, count))
            width = -(-width // (8 if count <= 2 else 4 if count <= 4 else 2 if count <= 16 else 1))
    return steps


class Orders(unittest.TestCase):
    def each_order(self, width, height, colours, count, exponent=0):
        for many in range(1, 5):
            for kinds in itertools.permutations(KINDS, many):
                writer = transformed(width, height, colours, steps_of(kinds, width, height, count, exponent))
                self.assertEqual(reads(writer), told(colours), (kinds, count))

    def test_any_colours(self):
        self.each_order(17, 15, noisy(255, 1), 256)

    def test_few_elements_in_a_table_of_sixteen(self):
        self.each_order(5, 3, noisy(15, 2), 16)
        self.each_order(1, 15, noisy(15, 3), 16)
        self.each_order(15, 1, noisy(15, 4), 16)

    def test_few_elements_in_a_table_of_four(self):
        self.each_order(2, 2, noisy(4, 2), 4)

    def test_one_colour_in_small_tables(self):
        for count in (2, 3, 4, 5, 16, 17):
            # In one square, so that all but the first is foretold.
            self.each_order(19, 6, [(7, 0, 200, 90)] * 114, count, 3)

    def test_few_colours_with_a_table_told_first(self):
        for count in (2, 3, 4, 7, 16, 20):
            places = [(k * k // 3 + k) % count for k in range(21 * 7)]
            colours = [noisy(count, count)[place] for place in places]
            for many in range(4):
                for kinds in itertools.permutations((PREDICTIONS, COLOURS, GREENS), many):
                    for exponent in (0, 1):
                        steps = steps_of((TABLE, *kinds), 21, 7, count, exponent)
                        self.assertEqual(reads(transformed(21, 7, colours, steps)), told(colours), (kinds, count))

    def test_alphas_are_255_in_the_end(self):
        colours = noisy(255, 1)
        for kinds in itertools.permutations(KINDS):
            writer = transformed(17, 15, colours, steps_of(kinds, 17, 15, 256), 0)
            self.assertEqual(reads(writer), told([(*colour[:3], 255) for colour in colours]))


class TheLastOneFirst(unittest.TestCase):
    def test_greens_and_colours(self):
        # (10, 32, 20): red grows by 1 for h 1, blue by f times the new red.
        factors = [(32, 0, 1, 255)]
        writer = Writer().head(1, 1, 1).transform(GREENS).squares(COLOURS, 0, factors).colours([(10, 32, 20, 9)])
        self.assertEqual(reads(writer), [4, 11 + 32, 32, 20 + 11 + 32, 9])
        writer = Writer().head(1, 1, 1).squares(COLOURS, 0, factors).transform(GREENS).colours([(10, 32, 20, 9)])
        self.assertEqual(reads(writer), [4, 43, 32, 20 + 32 + 43, 9])

    def test_greens_and_predictions(self):
        modes = [(0, 1, 0, 255)]
        colours = [(10, 20, 30, 40), (1, 2, 3, 4), (0, 0, 0, 0), (0, 250, 0, 0)]
        # What is foretold with is the same either way: sums of all that stand on the left.
        answer = [(30, 20, 50, 39), (33, 22, 55, 43), (33, 22, 55, 43), (27, 16, 49, 43)]
        for greens_first in (True, False):
            writer = Writer().head(4, 1, 1)
            if greens_first:
                writer.transform(GREENS).squares(PREDICTIONS, 0, modes)
            else:
                writer.squares(PREDICTIONS, 0, modes).transform(GREENS)
            self.assertEqual(reads(writer.colours(colours)), told(answer))
        # But not where they are brought to 0 to 255: reds 200, 200 and 255, greens 100.
        modes = [(0, 12, 0, 255)]
        colours = [(100, 100, 0, 0), (55, 0, 0, 0), (55, 0, 0, 0), (0, 0, 0, 0)]
        writer = Writer().head(2, 2, 1).squares(PREDICTIONS, 0, modes).transform(GREENS).colours(colours)
        self.assertEqual(reads(writer), told([(200, 100, 100, 255), (255, 100, 100, 255), (255, 100, 100, 255),
                                              (255, 100, 100, 255)]))
        writer = Writer().head(2, 2, 1).transform(GREENS).squares(PREDICTIONS, 0, modes).colours(colours)
        self.assertEqual(reads(writer), told([(200, 100, 100, 255), (255, 100, 100, 255), (255, 100, 100, 255),
                                              (54, 100, 100, 255)]))

    def test_greens_and_a_table(self):
        # Told first, greens belong to the table's colours; told behind it, to the packed places alone.
        table = [(1, 2, 3, 4), (10, 250, 10, 255)]
        writer = Writer().head(2, 1, 1).transform(GREENS).table(differences(table)).colours([(0, 0b10, 0, 255)])
        self.assertEqual(reads(writer), told([(3, 2, 5, 4), (4, 250, 4, 255)]))
        writer = Writer().head(2, 1, 1).table(differences(table)).transform(GREENS).colours([(0, 0b10, 0, 255)])
        self.assertEqual(reads(writer), told(table))


class Widths(unittest.TestCase):
    TABLE = [(1, 2, 3, 4), (250, 251, 252, 253)]

    def test_predictions_told_behind_a_table(self):
        # 11 wide is 2 packed. The last takes, as what is above to the right, the row's own first.
        writer = Writer().head(11, 2, 1).table(differences(self.TABLE)).squares(PREDICTIONS, 0, [(0, 3, 0, 255)])
        writer.colours([(0, 0b10110100, 0, 0), (0, 0b01010001, 0, 0), (0, 0b00000001, 0, 0), (0, 0b00000001, 0, 0)])
        # The greens are 180, 180 and 81, 180 and 1, that and 1.
        greens = ((0b10110100, 0b101), (0b10110101, 0b110))
        bits = [greens[y][x // 8] >> x % 8 & 1 for y in range(2) for x in range(11)]
        self.assertEqual(reads(writer), told([self.TABLE[bit] for bit in bits]))

    def test_predictions_told_ahead_of_a_table(self):
        # The table tells what is added to the one above, 11 wide.
        writer = Writer().head(11, 2, 1).squares(PREDICTIONS, 0, [(0, 2, 0, 255)] * 3).table(differences(self.TABLE))
        writer.colours([(0, 0, 0, 255), (0, 0, 0, 255), (0, 0b00000010, 0, 255), (0, 0b100, 0, 255)])
        row = [(k, 2 * k, 3 * k, (4 * k - 1) % 256) for k in range(1, 12)]
        below = [tuple((one + two) % 256 for one, two in zip(colour, self.TABLE[place in (1, 10)]))
                 for place, colour in enumerate(row)]
        self.assertEqual(reads(writer), told(row + below))

    def test_squares_on_both_sides_of_a_table(self):
        # Colours over three squares 12 wide; behind the table predictions over one, 2 wide.
        factors = [(0, 0, 1, 255), (0, 0, 2, 255), (0, 0, 3, 255)]
        table = [(5, 32, 9, 255), (100, 64, 9, 255)]
        writer = Writer().head(12, 1, 1).squares(COLOURS, 0, factors).table(differences(table))
        writer.squares(PREDICTIONS, 0, [(0, 0, 0, 255)]).colours([(0, 0b01010101, 0, 0), (0, 0b10110001, 0, 0)])
        places = [0b01010101 >> k & 1 for k in range(8)] + [0b00000110 >> k & 1 for k in range(4)]
        answer = [(table[place][0] + (1 + x // 4) * (1 + place), *table[place][1:]) for x, place in enumerate(places)]
        self.assertEqual(reads(writer), told(answer))


if __name__ == "__main__":
    unittest.main()
