"""Tables undone: packed places, places without a colour, widths that are divided and not."""

import unittest

from forward import differences, noisy, packed, packed_in_one, up
from writer import TABLE, Writer, reads, told

COUNTS = (1, 2, 3, 4, 5, 15, 16, 17, 100, 255, 256)
WIDTHS = (1, 2, 3, 4, 5, 6, 7, 8, 9, 15, 16, 17, 31, 33)
NOTHING = (0, 0, 0, 0)


def greens_file(width, height, table, greens, alphas=1):
    """Greens as they stand in the file, behind a table of these colours."""
    return Writer().head(width, height, alphas).table(differences(table)).colours([(0, green, 0, 255)
                                                                                   for green in greens])


class Packed(unittest.TestCase):
    def test_two_colours(self):
        table = [(1, 2, 3, 4), (250, 251, 252, 253)]
        writer = greens_file(8, 1, table, [0b10010110])
        self.assertEqual(reads(writer), told([table[bit] for bit in (0, 1, 1, 0, 1, 0, 0, 1)]))

    def test_one_colour(self):
        # A bit that stands for no colour: all 0.
        writer = greens_file(8, 1, [(1, 2, 3, 4)], [0b10010110])
        self.assertEqual(reads(writer), told([(NOTHING if bit else (1, 2, 3, 4)) for bit in (0, 1, 1, 0, 1, 0, 0, 1)]))

    def test_four_colours(self):
        table = [(1, 2, 3, 4), (250, 251, 252, 253), (9, 9, 9, 9), (0, 0, 0, 1)]
        writer = greens_file(4, 2, table, [0b11100100, 0b00011011])
        self.assertEqual(reads(writer), told([table[place] for place in (0, 1, 2, 3, 3, 2, 1, 0)]))

    def test_three_colours(self):
        table = [(1, 2, 3, 4), (250, 251, 252, 253), (9, 9, 9, 9)]
        writer = greens_file(4, 2, table, [0b11100100, 0b00011011])
        self.assertEqual(reads(writer), told([(table + [NOTHING])[place] for place in (0, 1, 2, 3, 3, 2, 1, 0)]))

    def test_sixteen_colours(self):
        table = noisy(16, 3)
        writer = greens_file(2, 8, table, [0x10, 0x32, 0x54, 0x76, 0x98, 0xBA, 0xDC, 0xFE])
        self.assertEqual(reads(writer), told(table))

    def test_five_colours(self):
        table = noisy(5, 3)
        writer = greens_file(2, 3, table, [0x04, 0x52, 0xF1])
        self.assertEqual(reads(writer), told([table[4], table[0], table[2], NOTHING, table[1], NOTHING]))

    def test_seventeen_colours(self):
        table = noisy(17, 3)
        writer = greens_file(3, 2, table, [0, 16, 17, 5, 255, 1])
        self.assertEqual(reads(writer), told([table[0], table[16], NOTHING, table[5], NOTHING, table[1]]))

    def test_as_many_as_there_are(self):
        table = noisy(256, 3)
        self.assertEqual(reads(greens_file(16, 16, table, range(256))), told(table))


class Widths(unittest.TestCase):
    def test_each_count_in_each_width(self):
        for count in COUNTS:
            table = noisy(count, count)
            for width in WIDTHS:
                places = [(3 * k + k * k // 5) % count for k in range(3 * width)]
                writer = Writer().head(width, 3, 1).table(differences(table)).colours(packed(places, width, count))
                self.assertEqual(reads(writer), told([table[place] for place in places]), (count, width))

    def test_what_is_packed_past_the_edge_counts_for_nothing(self):
        table = [(1, 2, 3, 4), (250, 251, 252, 253)]
        for rest in (0, 0b11100000):
            writer = greens_file(5, 2, table, [0b00110 | rest, 0b10001 | rest])
            self.assertEqual(reads(writer), told([table[bit] for bit in (0, 1, 1, 0, 0, 1, 0, 0, 0, 1)]))

    def test_places_without_a_colour(self):
        for count in COUNTS:
            many = packed_in_one(count)
            table = noisy(count, count)
            last = (1 << 8 // many) - 1
            places = [last, 0, count - 1, min(count, last), last, last] * 3
            writer = Writer().head(6, 3, 1).table(differences(table)).colours(packed(places, 6, count))
            whole = table + [NOTHING] * 256
            self.assertEqual(reads(writer), told([whole[place] for place in places]), count)

    def test_no_colour_where_alphas_do_not_count(self):
        writer = greens_file(2, 1, [(1, 2, 3, 4)], [0b10], 0)
        self.assertEqual(reads(writer), told([(1, 2, 3, 255), (0, 0, 0, 255)]))

    def test_the_parts_beside_the_green_count_for_nothing(self):
        for count in (2, 4, 16, 256):
            table = noisy(count, count)
            places = [k * 5 % count for k in range(18)]
            for rest in ((0, 0, 0), (255, 255, 255), (1, 77, 128)):
                colours = packed(places, 9, count, rest)
                self.assertEqual(len(colours), 2 * up(9, packed_in_one(count)))
                writer = Writer().head(9, 2, 1).table(differences(table)).colours(colours)
                self.assertEqual(reads(writer), told([table[place] for place in places]))


class Sums(unittest.TestCase):
    def test_the_one_before_is_added_part_by_part(self):
        writer = Writer().head(3, 1, 1).table([(200, 1, 255, 0), (100, 255, 255, 255), (1, 1, 1, 1)])
        writer.colours([(0, 0b100100, 0, 255)])
        self.assertEqual(reads(writer), told([(200, 1, 255, 0), (44, 0, 254, 255), (45, 1, 255, 0)]))

    def test_it_adds_up_over_the_whole_table(self):
        writer = Writer().head(256, 1, 1).table([(1, 3, 255, 100)] * 256)
        writer.colours([(0, green, 0, 255) for green in range(256)])
        self.assertEqual(reads(writer), told([((k + 1) % 256, 3 * (k + 1) % 256, -(k + 1) % 256, 100 * (k + 1) % 256)
                                              for k in range(256)]))

    def test_a_table_of_lengths_and_distances(self):
        writer = Writer().head(4, 1, 1).transform(TABLE).put(3, 8)
        group = writer.plain([5, 258], [1], [2], [3], far=[1])
        writer.literal(group, 5, 1, 2, 3).back(group, 3, 2)
        writer.colours([(0, 0b11100100, 0, 255)])
        self.assertEqual(reads(writer), told([(k, 5 * k, 2 * k, 3 * k) for k in (1, 2, 3, 4)]))


if __name__ == "__main__":
    unittest.main()
