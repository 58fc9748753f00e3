"""Predictions undone: each mode, the first row and column, a row's last element, squares."""

import unittest

from forward import foretold, less, noisy, squares_count, transformed, up
from writer import PREDICTIONS, Writer, reads, told

MODES = range(14)
BLACK = (0, 0, 0, 255)
NOTHING = (0, 0, 0, 0)
# Around an element: above to the left, above, above to the right, on the left.
CORNER, TOP, RIGHT, LEFT = (10, 200, 30, 40), (20, 100, 250, 41), (31, 0, 7, 255), (90, 250, 0, 0)
# By modes: what is foretold there, and what then for a row's last element behind it.
FORETOLD = (
    ((0, 0, 0, 255), (0, 0, 0, 255)),
    ((90, 250, 0, 0), (90, 250, 0, 0)),
    ((20, 100, 250, 41), (31, 0, 7, 255)),
    ((31, 0, 7, 255), (90, 250, 0, 0)),
    ((10, 200, 30, 40), (20, 100, 250, 41)),
    ((40, 112, 126, 84), (48, 90, 35, 148)),
    ((50, 225, 15, 20), (35, 162, 132, 30)),
    ((55, 175, 125, 20), (43, 87, 66, 137)),
    ((15, 150, 140, 40), (25, 50, 128, 148)),
    ((25, 50, 128, 148), (60, 125, 3, 127)),
    ((37, 137, 71, 84), (44, 121, 81, 94)),
    ((20, 100, 250, 41), (31, 0, 7, 255)),
    ((100, 150, 220, 1), (111, 50, 0, 215)),
    ((77, 163, 172, 10), (71, 72, 9, 177)),
)


def put_modes(writer, modes, exponent=0):
    return writer.squares(PREDICTIONS, exponent, [(0, mode, 0, 255) for mode in modes])


def predicted_file(width, height, modes, colours, exponent=0):
    """The file of these colours as they stand in it, what is foretold not yet added."""
    return put_modes(Writer().head(width, height, 1), modes, exponent).colours(colours)


def beside(mode, left, top, right, corner, own=NOTHING):
    """What becomes of an element among these: rows of three, the last in the second row is what own adds to."""
    colours = [less(corner, BLACK), less(top, corner), less(right, top), less(left, corner), own, NOTHING]
    answer = reads(predicted_file(3, 2, [mode], colours))
    assert answer[0] == 24
    assert answer[1:17] == [part for colour in (corner, top, right, left) for part in colour]
    return tuple(answer[17:21])


class Borders(unittest.TestCase):
    def test_the_first(self):
        for mode in MODES:
            for colour, answer in (((0, 0, 0, 0), (0, 0, 0, 255)), ((1, 2, 3, 4), (1, 2, 3, 3)),
                                   ((255, 254, 253, 1), (255, 254, 253, 0)), ((7, 8, 9, 255), (7, 8, 9, 254))):
                self.assertEqual(reads(predicted_file(1, 1, [mode], [colour])), [4] + list(answer))

    def test_one_high(self):
        for mode in MODES:
            writer = predicted_file(4, 1, [mode], [(1, 2, 3, 4), (100, 0, 255, 1), (100, 254, 1, 0), (100, 1, 0, 255)])
            self.assertEqual(reads(writer), told([(1, 2, 3, 3), (101, 2, 2, 4), (201, 0, 3, 4), (45, 1, 3, 3)]))

    def test_one_wide(self):
        for mode in MODES:
            writer = predicted_file(1, 4, [mode], [(1, 2, 3, 4), (100, 0, 255, 1), (100, 254, 1, 0), (100, 1, 0, 255)])
            self.assertEqual(reads(writer), told([(1, 2, 3, 3), (101, 2, 2, 4), (201, 0, 3, 4), (45, 1, 3, 3)]))

    def test_the_first_row_and_column_go_by_no_mode(self):
        for mode in MODES:
            colours = noisy(25, mode)
            answer = reads(predicted_file(5, 5, [mode] * 4, colours))[1:]
            done = [tuple(answer[place:place + 4]) for place in range(0, 100, 4)]
            self.assertEqual(less(done[0], BLACK), colours[0])
            for k in range(1, 5):
                self.assertEqual(less(done[k], done[k - 1]), colours[k])
                self.assertEqual(less(done[5 * k], done[5 * k - 5]), colours[5 * k])

    def test_long_ones(self):
        for width, height in ((300, 1), (1, 300)):
            for mode in (0, 7, 13):
                writer = predicted_file(width, height, [mode] * 75, [(1, 3, 255, 0)] * 300)
                answer = [((k + 1) % 256, 3 * (k + 1) % 256, -(k + 1) % 256, 255) for k in range(300)]
                self.assertEqual(reads(writer), told(answer))


class Modes(unittest.TestCase):
    def test_each(self):
        for mode in MODES:
            colours = [less(CORNER, BLACK), less(TOP, CORNER), less(RIGHT, TOP), less(LEFT, CORNER), NOTHING, NOTHING]
            answer = [CORNER, TOP, RIGHT, LEFT, *FORETOLD[mode]]
            self.assertEqual(reads(predicted_file(3, 2, [mode], colours)), told(answer), mode)

    def test_what_is_added_goes_over_255(self):
        for mode in MODES:
            for own in ((1, 2, 3, 4), (255, 255, 255, 255), (200, 100, 128, 215)):
                answer = tuple((one + two) % 256 for one, two in zip(FORETOLD[mode][0], own))
                self.assertEqual(beside(mode, LEFT, TOP, RIGHT, CORNER, own), answer)

    def test_a_rows_last_takes_the_rows_own_first(self):
        # Two wide: what would be to the right above is the row's own first, on the left at the same time.
        colours = [less(CORNER, BLACK), less(TOP, CORNER), less(LEFT, CORNER), NOTHING, less(RIGHT, LEFT), NOTHING]
        halves = ((55, 175, 125, 20), (43, 87, 66, 137))
        for mode, last, next_last in ((3, LEFT, RIGHT), (9, *halves), (5, *halves)):
            self.assertEqual(reads(predicted_file(2, 3, [mode], colours)),
                             told([CORNER, TOP, LEFT, last, RIGHT, next_last]), mode)

    def test_bits_that_halve(self):
        # Odd sums go down, and no part's bit comes into the next.
        for mode, places in ((6, ("left", "corner")), (7, ("left", "top")), (8, ("top", "corner")),
                             (9, ("top", "right"))):
            for one, other, half in (((1, 1, 1, 1), (0, 0, 0, 0), (0, 0, 0, 0)),
                                     ((255, 255, 255, 255), (0, 0, 0, 0), (127, 127, 127, 127)),
                                     ((255, 255, 255, 255), (254, 254, 254, 254), (254, 254, 254, 254)),
                                     ((255, 255, 255, 255), (255, 255, 255, 255), (255, 255, 255, 255)),
                                     ((129, 3, 128, 7), (128, 128, 3, 254), (128, 65, 65, 130))):
                for first, second in ((one, other), (other, one)):
                    around = dict(left=CORNER, top=CORNER, right=CORNER, corner=CORNER)
                    around[places[0]], around[places[1]] = first, second
                    self.assertEqual(beside(mode, **around), half, mode)

    def test_halves_of_halves(self):
        one, nothing = (1, 255, 3, 128), (0, 0, 0, 0)
        self.assertEqual(beside(5, one, one, nothing, nothing), (0, 191, 2, 96))
        self.assertEqual(beside(5, nothing, one, one, nothing), (0, 191, 2, 96))
        self.assertEqual(beside(5, one, nothing, one, nothing), (0, 127, 1, 64))
        self.assertEqual(beside(5, nothing, one, nothing, one), (0, 127, 1, 64))
        self.assertEqual(beside(10, one, one, nothing, nothing), (0, 127, 1, 64))
        self.assertEqual(beside(10, one, nothing, nothing, one), (0, 127, 1, 64))
        self.assertEqual(beside(10, one, one, one, nothing), (0, 191, 2, 96))
        self.assertEqual(beside(10, one, one, one, one), one)


class Mode11(unittest.TestCase):
    def test_the_one_that_differs_less(self):
        # Where the one above is nearer to the corner, the one on the left is foretold, and the other way round.
        corner = (100, 100, 100, 100)
        for part in range(4):
            for sign in (1, -1):
                near = tuple(100 + sign * 5 * (k == part) for k in range(4))
                far = tuple(100 + sign * 6 * (k == part) for k in range(4))
                self.assertEqual(beside(11, far, near, RIGHT, corner), far)
                self.assertEqual(beside(11, near, far, RIGHT, corner), far)

    def test_both_differ_alike(self):
        corner = (100, 100, 100, 100)
        for left, top in (((101, 100, 100, 100), (99, 100, 100, 100)), ((100, 105, 100, 100), (105, 100, 100, 100)),
                          ((100, 100, 110, 100), (97, 103, 102, 98)), ((96, 100, 104, 100), (100, 92, 100, 100)),
                          ((90, 100, 100, 100), (100, 100, 100, 110))):
            self.assertEqual(beside(11, left, top, RIGHT, corner), top)
            self.assertEqual(beside(11, top, left, RIGHT, corner), left)

    def test_the_sum_over_parts(self):
        corner = (100, 100, 100, 100)
        # 30 in one part against 4 times 8, then against 4 times 7.
        self.assertEqual(beside(11, (108, 92, 108, 92), (130, 100, 100, 100), RIGHT, corner), (108, 92, 108, 92))
        self.assertEqual(beside(11, (107, 93, 107, 93), (130, 100, 100, 100), RIGHT, corner), (130, 100, 100, 100))
        # Differences don't make up for one another.
        self.assertEqual(beside(11, (200, 0, 100, 100), (101, 101, 101, 101), RIGHT, corner), (200, 0, 100, 100))
        self.assertEqual(beside(11, (101, 101, 101, 101), (200, 0, 100, 100), RIGHT, corner), (200, 0, 100, 100))

    def test_wide_apart(self):
        # 0 and 255 differ by 255, not by 1.
        self.assertEqual(beside(11, (255, 0, 0, 0), (2, 0, 0, 0), RIGHT, (0, 0, 0, 0)), (255, 0, 0, 0))
        self.assertEqual(beside(11, (2, 0, 0, 0), (255, 0, 0, 0), RIGHT, (0, 0, 0, 0)), (255, 0, 0, 0))


class Mode12(unittest.TestCase):
    def test_brought_to_0_to_255(self):
        for left, top, corner, answer in ((200, 100, 45, 255), (200, 100, 44, 255), (200, 100, 46, 254),
                                          (255, 255, 0, 255), (0, 0, 255, 0), (10, 20, 30, 0), (10, 20, 31, 0),
                                          (10, 20, 29, 1), (255, 0, 255, 0), (0, 255, 0, 255)):
            for part in range(4):
                around = [tuple(number if k == part else 7 for k in range(4)) for number in (left, top, corner)]
                wanted = tuple(answer if k == part else 7 for k in range(4))
                self.assertEqual(beside(12, around[0], around[1], RIGHT, around[2]), wanted)


class Mode13(unittest.TestCase):
    def test_toward_zero(self):
        # The half sum is 100 (an odd sum goes down), and what the corner is above or below it.
        for corner, answer in ((100, 100), (101, 100), (102, 99), (103, 99), (104, 98), (105, 98), (255, 23),
                               (99, 100), (98, 101), (97, 101), (96, 102), (95, 102), (0, 150), (1, 149)):
            for left, top in ((100, 100), (90, 110), (90, 111), (1, 200)):
                for part in range(4):
                    around = [tuple(number if k == part else 7 for k in range(4)) for number in (left, top, corner)]
                    wanted = tuple(answer if k == part else 7 for k in range(4))
                    self.assertEqual(beside(13, around[0], around[1], RIGHT, around[2]), wanted)

    def test_brought_to_0_to_255(self):
        for left, top, corner, answer in ((255, 255, 0, 255), (255, 255, 254, 255), (200, 200, 90, 255),
                                          (200, 200, 89, 255), (200, 200, 91, 254), (0, 0, 255, 0), (0, 0, 1, 0),
                                          (0, 0, 2, 0), (50, 50, 150, 0), (50, 50, 148, 1), (50, 50, 152, 0)):
            for part in range(4):
                around = [tuple(number if k == part else 7 for k in range(4)) for number in (left, top, corner)]
                wanted = tuple(answer if k == part else 7 for k in range(4))
                self.assertEqual(beside(13, around[0], around[1], RIGHT, around[2]), wanted)


class Any(unittest.TestCase):
    def test_each_mode_around_any_colours(self):
        for mode in MODES:
            colours = noisy(5 * 40, 100 + mode)
            for k in range(40):
                left, top, right, corner, own = colours[5 * k:5 * k + 5]
                guess = foretold(mode, left, top, right, corner)
                self.assertEqual(less(beside(mode, left, top, right, corner, own), guess), own)

    def test_whole_pictures(self):
        for mode in MODES:
            for width, height, mask in ((4, 4, 255), (7, 6, 255), (7, 6, 3), (2, 9, 255), (1, 5, 255), (9, 1, 255),
                                        (23, 3, 192)):
                colours = noisy(width * height, 7 * mode + width, mask)
                modes = [mode] * squares_count(width, height, 0)
                writer = transformed(width, height, colours, [(PREDICTIONS, 0, modes)])
                self.assertEqual(reads(writer), told(colours), (mode, width, height))


class Squares(unittest.TestCase):
    def test_squares_that_the_edge_cuts(self):
        # Each square foretells what another doesn't: 2 the one above, 1 the one on the left, 0 black.
        first = [less((1, 1, 1, 1), BLACK)] + [(1, 1, 1, 1)] * 5
        rows = first + ([(10, 10, 10, 10)] + [NOTHING] * 5) * 4
        answer = [(k, k, k, k) for k in range(1, 7)]
        for row in (11, 21, 31):
            answer += [(row,) * 4] * 4 + [BLACK] * 2
        answer += [(41,) * 4] + [(31,) * 4] * 3 + [(31,) * 4] * 2
        self.assertEqual(reads(predicted_file(6, 5, [1, 0, 2, 1], rows)), told(answer))

    def test_each_side(self):
        for exponent in range(8):
            side = 4 << exponent
            for width, height in ((side + 1, 3), (3, side + 1), (side, 2)):
                count = squares_count(width, height, exponent)
                self.assertEqual(count, up(width, side) * up(height, side))
                colours = noisy(width * height, exponent, 31)
                writer = transformed(width, height, colours, [(PREDICTIONS, exponent, [12, 3][:count])])
                self.assertEqual(reads(writer), told(colours))

    def test_all_modes_in_one_picture(self):
        for width, height, exponent in ((28, 8, 0), (27, 7, 0), (25, 30, 0), (37, 21, 1), (16, 16, 0)):
            count = squares_count(width, height, exponent)
            modes = [(5 * k + k // 14) % 14 for k in range(count)]
            colours = noisy(width * height, width, 63)
            writer = transformed(width, height, colours, [(PREDICTIONS, exponent, modes)])
            self.assertEqual(reads(writer), told(colours))

    def test_the_mode_is_the_green_alone(self):
        colours = [less(CORNER, BLACK), less(TOP, CORNER), less(RIGHT, TOP), less(LEFT, CORNER), NOTHING, NOTHING]
        for red, blue, alpha in ((0, 0, 0), (255, 255, 255), (1, 2, 3)):
            writer = Writer().head(3, 2, 1).squares(PREDICTIONS, 0, [(red, 4, blue, alpha)]).colours(colours)
            self.assertEqual(reads(writer), told([CORNER, TOP, RIGHT, LEFT, *FORETOLD[4]]))

    def test_alphas_that_do_not_count_are_foretold_with(self):
        # The alphas alone make the one on the left differ more; in the end all are 255.
        writer = put_modes(Writer().head(2, 2, 0), [11])
        writer.colours([less((9, 9, 9, 0), BLACK), less((8, 9, 9, 0), (9, 9, 9, 0)), (0, 2, 0, 200), NOTHING])
        self.assertEqual(reads(writer), told([(9, 9, 9, 255), (8, 9, 9, 255), (9, 11, 9, 255), (9, 11, 9, 255)]))
        writer = put_modes(Writer().head(2, 2, 0), [11])
        writer.colours([less((9, 9, 9, 0), BLACK), less((8, 9, 9, 3), (9, 9, 9, 0)), (0, 2, 0, 0), NOTHING])
        self.assertEqual(reads(writer), told([(9, 9, 9, 255), (8, 9, 9, 255), (9, 11, 9, 255), (8, 9, 9, 255)]))


if __name__ == "__main__":
    unittest.main()
