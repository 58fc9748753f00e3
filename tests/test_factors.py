"""Colours and greens undone."""

import unittest

from forward import noisy, squares_count, transformed
from writer import COLOURS, GREENS, Writer, reads, told

# The product of two bytes with signs, divided by 32, down.
SHARES = (
    (0, 0, 0), (0, 255, 0), (1, 1, 0), (1, 31, 0), (1, 32, 1), (1, 63, 1), (1, 64, 2), (1, 127, 3),
    (1, 128, -4), (1, 255, -1), (1, 224, -1), (1, 223, -2), (2, 255, -1), (32, 255, -1), (33, 255, -2), (31, 255, -1),
    (127, 127, 504), (127, 128, -508), (127, 255, -4), (128, 128, 512), (128, 255, 4), (255, 255, 0),
    (128, 1, -4), (127, 1, 3), (127, 2, 7), (128, 2, -8), (255, 32, -1), (255, 33, -2), (100, 100, 312),
    (156, 100, -313), (156, 156, 312), (5, 7, 1), (251, 7, -2),
)


def coloured_file(factors, colours, alphas=1):
    """One row of these colours, at most four of them; factors: f, g, h."""
    return Writer().head(len(colours), 1, alphas).squares(COLOURS, 0, [(*factors, 255)]).colours(colours)


def octet(number):
    return number % 256


class Products(unittest.TestCase):
    def test_red_by_green(self):
        for one, other, share in SHARES:
            for h, green in ((one, other), (other, one)):
                for red in (0, 1, 100, 255):
                    writer = coloured_file((0, 0, h), [(red, green, 3, 4)])
                    self.assertEqual(reads(writer), [4, octet(red + share), green, 3, 4], (h, green))

    def test_blue_by_green(self):
        for one, other, share in SHARES:
            for g, green in ((one, other), (other, one)):
                for blue in (0, 1, 100, 255):
                    writer = coloured_file((0, g, 0), [(3, green, blue, 4)])
                    self.assertEqual(reads(writer), [4, 3, green, octet(blue + share), 4], (g, green))

    def test_blue_by_red(self):
        for one, other, share in SHARES:
            for f, red in ((one, other), (other, one)):
                for blue in (0, 1, 100, 255):
                    writer = coloured_file((f, 0, 0), [(red, 3, blue, 4)])
                    self.assertEqual(reads(writer), [4, red, 3, octet(blue + share), 4], (f, red))


class Together(unittest.TestCase):
    def test_the_new_red_goes_into_blue(self):
        # h times green is 3 times 32: red becomes 13, and f times that 13.
        self.assertEqual(reads(coloured_file((32, 0, 3), [(10, 32, 20, 99)])), [4, 13, 32, 33, 99])
        # Red goes over 127 and then counts below zero: 120 and 10 are 130, which is -126.
        self.assertEqual(reads(coloured_file((32, 0, 10), [(120, 32, 200, 99)])), [4, 130, 32, 74, 99])
        # Red goes over 255: 250 and 10 are 4.
        self.assertEqual(reads(coloured_file((64, 0, 10), [(250, 32, 200, 99)])), [4, 4, 32, 208, 99])
        # Red goes below 0: 3 less 10 is 249, which is -7.
        self.assertEqual(reads(coloured_file((64, 0, 246), [(3, 32, 20, 99)])), [4, 249, 32, 6, 99])

    def test_both_shares_of_blue(self):
        # Each is divided by itself: 31 / 32 and 31 / 32 are 0, not 1.
        self.assertEqual(reads(coloured_file((1, 1, 0), [(31, 31, 20, 99)])), [4, 31, 31, 20, 99])
        # -1 / 32 twice is -2.
        self.assertEqual(reads(coloured_file((1, 1, 0), [(255, 255, 20, 99)])), [4, 255, 255, 18, 99])
        # 504 and 504 and 7 are 1015, which is 247.
        self.assertEqual(reads(coloured_file((127, 127, 0), [(127, 127, 7, 0)])), [4, 127, 127, 247, 0])

    def test_each_of_the_three(self):
        colours = [(10, 32, 20, 99), (0, 0, 0, 0), (255, 255, 255, 255), (1, 128, 200, 7)]
        # With f 64, g 32, h 96: the first red grows by 96, the first blue by 32 and 212.
        answer = [(106, 32, 8, 99), (0, 0, 0, 0), (252, 255, 246, 255), (129, 128, 74, 7)]
        self.assertEqual(reads(coloured_file((64, 32, 96), colours)), told(answer))

    def test_alphas_make_no_difference(self):
        for alpha in (0, 128, 255):
            self.assertEqual(reads(coloured_file((32, 0, 3), [(10, 32, 20, alpha)], 0)), [4, 13, 32, 33, 255])
            writer = Writer().head(1, 1, 1).squares(COLOURS, 0, [(32, 0, 3, alpha)]).colours([(10, 32, 20, 7)])
            self.assertEqual(reads(writer), [4, 13, 32, 33, 7])


class Squares(unittest.TestCase):
    def test_squares_that_the_edge_cuts(self):
        # Red grows by h where green is 32.
        factors = [(0, 0, 1, 255), (0, 0, 2, 255), (0, 0, 3, 255), (0, 0, 4, 255)]
        writer = Writer().head(6, 5, 1).squares(COLOURS, 0, factors).colours([(50, 32, 0, 1)] * 30)
        reds = [51, 51, 51, 51, 52, 52] * 4 + [53, 53, 53, 53, 54, 54]
        self.assertEqual(reads(writer), told([(red, 32, 0, 1) for red in reds]))

    def test_each_side(self):
        for exponent in range(8):
            side = 4 << exponent
            for width, height in ((side + 1, 2), (2, side + 1), (side, 1)):
                factors = [(200, 100, 50), (17, 240, 129)][:squares_count(width, height, exponent)]
                colours = noisy(width * height, exponent, 31)
                writer = transformed(width, height, colours, [(COLOURS, exponent, factors)])
                self.assertEqual(reads(writer), told(colours))

    def test_any(self):
        for width, height in ((1, 1), (4, 4), (5, 5), (13, 9), (1, 9), (9, 1)):
            count = squares_count(width, height, 0)
            for state in range(5):
                factors = [colour[:3] for colour in noisy(count, 50 + state)]
                colours = noisy(width * height, state)
                writer = transformed(width, height, colours, [(COLOURS, 0, factors)])
                self.assertEqual(reads(writer), told(colours))


class Greens(unittest.TestCase):
    def greens(self, colours, alphas=1):
        return reads(Writer().head(len(colours), 1, alphas).transform(GREENS).colours(colours))

    def test_green_is_added_to_red_and_blue(self):
        self.assertEqual(self.greens([(1, 2, 3, 4), (0, 0, 0, 0), (9, 0, 8, 255)]),
                         told([(3, 2, 5, 4), (0, 0, 0, 0), (9, 0, 8, 255)]))

    def test_over_255(self):
        self.assertEqual(self.greens([(255, 255, 255, 255), (1, 255, 0, 0), (128, 128, 127, 9), (200, 56, 199, 1)]),
                         told([(254, 255, 254, 255), (0, 255, 255, 0), (0, 128, 255, 9), (0, 56, 255, 1)]))

    def test_alphas(self):
        self.assertEqual(self.greens([(1, 2, 3, 4), (255, 255, 1, 0)], 0), told([(3, 2, 5, 255), (254, 255, 0, 255)]))

    def test_any(self):
        for width, height in ((1, 1), (7, 5), (1, 30), (30, 1)):
            colours = noisy(width * height, width)
            self.assertEqual(reads(transformed(width, height, colours, [(GREENS,)])), told(colours))


if __name__ == "__main__":
    unittest.main()
