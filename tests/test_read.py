"""read: pictures without transforms, the refusals and their order, how it is called, and large inputs."""

import contextlib
import io
import sys
import unittest

from forward import noisy, transformed
from losslook.pictures import look, read
from test_coded import PAIRS
from test_look import ordinary, samples, walk
from writer import (COLOURS, FIRST, GREATEST_MOST, GREENS, NO_FILE, OUT_OF_RANGE, PREDICTIONS, TOO_LARGE,
                    TOO_LITTLE_ROOM, Writer, framed, reads, slot_of, told, uniform)

WRONG_MOSTS = (-2147483648, -4194304, -2, -1, 4194305, 4194306, 2147483647)
RIGHT_MOSTS = (0, 1, 2, 3, 4, 23, 24, 1048576, 4194303, 4194304)


class Elements(unittest.TestCase):
    def test_one(self):
        self.assertEqual(reads(Writer().head(1, 1, 1).colours([(1, 2, 3, 4)])), [4, 1, 2, 3, 4])
        self.assertEqual(reads(Writer().head(1, 1, 0).colours([(1, 2, 3, 4)])), [4, 1, 2, 3, 255])

    def test_rows(self):
        writer = Writer().head(2, 3, 1)
        writer.colours([(1, 2, 3, 4), (5, 6, 7, 8), (255, 0, 0, 0), (0, 255, 0, 0), (0, 0, 255, 0), (0, 0, 0, 255)])
        self.assertEqual(reads(writer), [24, 1, 2, 3, 4, 5, 6, 7, 8, 255, 0, 0, 0, 0, 255, 0, 0, 0, 0, 255, 0, 0, 0, 0, 255])

    def test_alphas(self):
        colours = noisy(35, 1)
        self.assertEqual(reads(Writer().head(7, 5, 1).colours(colours)), told(colours))
        self.assertEqual(reads(Writer().head(7, 5, 0).colours(colours)),
                         told([(*colour[:3], 255) for colour in colours]))

    def test_widths_and_heights(self):
        for width, height in ((1, 1), (1, 9), (9, 1), (16384, 1), (1, 16384), (31, 33)):
            colours = noisy(width * height, width, 17)
            self.assertEqual(reads(Writer().head(width, height, 1).colours(colours)), told(colours))

    def test_codes_of_one_symbol(self):
        self.assertEqual(reads(uniform(3, 2)), told([(0, 7, 0, 255)] * 6))


class Backwards(unittest.TestCase):
    def back(self, width, height, before, length, value):
        """Noise, then a length and a distance's value, then noise again."""
        colours = [(k * 7 & 255, k & 255, k >> 8, 255) for k in range(width * height)]
        writer = Writer().head(width, height, 1)
        parts = [sorted({colour[part] for colour in colours}) for part in (1, 0, 2, 3)]
        group = writer.own(parts[0] + list(range(256, 280)), *parts[1:], far=list(range(40)))
        for red, green, blue, alpha in colours[:before]:
            writer.literal(group, green, red, blue, alpha)
        writer.back(group, length, value)
        for red, green, blue, alpha in colours[before + length:]:
            writer.literal(group, green, red, blue, alpha)
        return writer, colours

    def check(self, width, height, before, length, value, distance):
        writer, colours = self.back(width, height, before, length, value)
        for place in range(before, before + length):
            colours[place] = colours[place - distance]
        self.assertEqual(read(GREATEST_MOST, writer.file()), told(colours), (width, value))

    def test_every_pair(self):
        for value, (x, y) in enumerate(PAIRS, 1):
            self.check(20, 10, 170, 3, value, x + 20 * y)

    def test_pairs_in_narrow_pictures(self):
        for value in (1, 2, 3, 4, 8, 12, 28, 60, 86, 118, 120):
            for width in (1, 2, 3, 6):
                x, y = PAIRS[value - 1]
                self.check(width, 90 // width, 70, 2, value, max(1, x + width * y))

    def test_far_ones(self):
        for value, distance in ((121, 1), (122, 2), (140, 20), (141, 21), (319, 199), (420, 300)):
            self.check(20, 16, 300, 3, value, distance)

    def test_lengths_above_the_distance(self):
        for length in (1, 2, 3, 4, 5, 6, 7, 9, 64, 99):
            self.check(11, 10, 7, length, 2, 1)
            self.check(11, 10, 7, length, 6, 2)
            self.check(11, 10, 7, length, 127, 7)

    def test_what_comes_back_is_kept_in_the_cache(self):
        one, two = (1, 0, 0, 255), next((2, 0, blue, 255) for blue in range(256)
                                        if slot_of(3, 2, 0, blue) == slot_of(3, 1))
        slot = slot_of(3, 1)
        writer = Writer().head(4, 1, 1)
        group = writer.own([1, 2, 256, 280 + slot], blue=sorted({0, two[2]}), far=[4], depth=3)
        writer.literal(group, *one).literal(group, *two).back(group, 1, 6).cached(group, slot)
        told_one, told_two = (0, 1, 0, 255), (0, 2, two[2], 255)
        self.assertEqual(reads(writer), told([told_one, told_two, told_one, told_one]))


class Cache(unittest.TestCase):
    def test_each_depth(self):
        for depth in range(1, 12):
            colours = [(9, 1, 8, 7), (200, 2, 100, 0), (255, 3, 255, 255)]
            slots = [slot_of(depth, green, red, blue, alpha) for red, green, blue, alpha in colours]
            writer = Writer().head(6, 1, 1)
            group = writer.own([1, 2, 3] + sorted({280 + slot for slot in slots}), [9, 200, 255], [8, 100, 255],
                               [0, 7, 255], depth=depth)
            answer = []
            for (red, green, blue, alpha), slot in zip(colours, slots):
                writer.literal(group, green, red, blue, alpha).cached(group, slot)
                answer += [(red, green, blue, alpha)] * 2
            self.assertEqual(reads(writer), told(answer))

    def test_an_empty_place(self):
        writer = Writer().head(2, 1, 1)
        group = writer.own([280, 283], depth=2)
        writer.cached(group, 3).cached(group, 0)
        self.assertEqual(reads(writer), told([(0, 0, 0, 0)] * 2))


class Groups(unittest.TestCase):
    def test_each_square_has_its_own_codes(self):
        writer = Writer().head(6, 5, 1).put(0, 1).cache(0).put(1, 1).put(0, 3)
        writer.colours([(0, number, 0, 255) for number in (2, 0, 1, 2)], own=False)
        for number in range(3):
            writer.group([10 * number], [number], [100 + number], [200 + number])
        answer = []
        for y in range(5):
            for x in range(6):
                number = (2, 0, 1, 2)[y // 4 * 2 + x // 4]
                answer.append((number, 10 * number, 100 + number, 200 + number))
        self.assertEqual(reads(writer), told(answer))

    def test_a_groups_number_is_red_and_green(self):
        writer = Writer().head(8, 1, 1).put(0, 1).cache(0).put(1, 1).put(0, 3)
        writer.colours([(1, 3, 77, 9), (0, 4, 78, 8)], own=False)
        for number in range(260):
            writer.group([number % 256], [number // 256])
        self.assertEqual(reads(writer), told([(1, 3, 0, 255)] * 4 + [(0, 4, 0, 255)] * 4))

    def test_a_length_over_the_edge_of_squares(self):
        writer = Writer().head(8, 1, 1).put(0, 1).cache(0).put(1, 1).put(0, 3)
        writer.colours([(0, 0, 0, 255), (0, 1, 0, 255)], own=False)
        left = writer.group([5, 6, 258], far=[1])
        right = writer.group([1, 2, 3])
        writer.literals(left, [5, 5, 6]).word(left[FIRST], 258).literals(right, [3, 2])
        self.assertEqual(reads(writer), told([(0, green, 0, 255) for green in (5, 5, 6, 6, 6, 6, 3, 2)]))


class Refusals(unittest.TestCase):
    def test_most_out_of_range(self):
        for data, answer in samples():
            for most in WRONG_MOSTS:
                self.assertEqual(read(most, data), OUT_OF_RANGE)

    def test_most_in_range(self):
        for data, answer in samples():
            for most in RIGHT_MOSTS:
                got = read(most, data)
                if answer[0] < 0:
                    self.assertEqual(got, answer)
                elif most < 4 * answer[1] * answer[2]:
                    self.assertEqual(got, TOO_LITTLE_ROOM)
                else:
                    self.assertEqual(got[0], 4 * answer[1] * answer[2])
                    self.assertEqual(len(got), 1 + got[0])

    def test_as_many_bytes_as_there_are_and_one_less(self):
        for width, height in ((1, 1), (1, 2), (5, 4), (31, 9)):
            colours = noisy(width * height, 2)
            for steps in ([], [(GREENS,)]):
                writer = transformed(width, height, colours, steps)
                size = 4 * width * height
                self.assertEqual(reads(writer, size), told(colours))
                self.assertEqual(reads(writer, size + 1), told(colours))
                for less in (1, 2, 3, 4, size):
                    self.assertEqual(reads(writer, size - less), TOO_LITTLE_ROOM)

    def test_a_packed_picture_is_as_large_as_it_becomes(self):
        writer = Writer().head(9, 1, 1).table([(1, 1, 1, 1), (1, 1, 1, 1)])
        writer.colours([(0, 0, 0, 255), (0, 1, 0, 255)])
        self.assertEqual(reads(writer, 35), TOO_LITTLE_ROOM)
        self.assertEqual(reads(writer, 36), told([(1, 1, 1, 1)] * 8 + [(2, 2, 2, 2)]))

    def test_the_largest(self):
        data = uniform(1024, 1024).file()
        self.assertEqual(read(4194303, data), TOO_LITTLE_ROOM)
        self.assertEqual(read(4194305, data), OUT_OF_RANGE)
        self.assertEqual(read(4194304, data), [4194304] + [0, 7, 0, 255] * 1048576)

    def test_no_such_file_comes_ahead_of_too_little_room(self):
        data = ordinary().file()
        for most in (0, 95, 96, 4194304):
            for cut in range(len(data)):
                self.assertEqual(read(most, data[:cut]), NO_FILE)
            self.assertEqual(read(most, data + [0]), NO_FILE)
            self.assertEqual(read(most, framed(ordinary().octets() + [0])), NO_FILE)

    def test_too_large_comes_ahead_of_too_little_room(self):
        octets = Writer().head(1025, 1024).octets()
        for most in RIGHT_MOSTS:
            for behind in ([], [0], [255] * 99):
                self.assertEqual(read(most, framed(octets + behind)), TOO_LARGE)
            self.assertEqual(read(most, framed(octets, riff="RIFX")), NO_FILE)
            self.assertEqual(read(most, framed(octets, sign=0)), NO_FILE)
            self.assertEqual(read(most, framed(Writer().head(1025, 1024, 0, 4).octets())), NO_FILE)

    def test_wrong_in_a_transform(self):
        for mode in (13, 14, 255):
            writer = Writer().head(1, 1, 1).squares(PREDICTIONS, 0, [(0, mode, 0, 255)]).colours([(1, 2, 3, 4)])
            self.assertEqual(reads(writer), [4, 1, 2, 3, 3] if mode == 13 else NO_FILE)
            self.assertEqual(reads(writer, 0), TOO_LITTLE_ROOM if mode == 13 else NO_FILE)
        writer = Writer().head(1, 1, 1).transform(GREENS).transform(GREENS).colours([(1, 2, 3, 4)])
        self.assertEqual(reads(writer), NO_FILE)

    def test_read_refuses_just_what_look_refuses(self):
        data = ordinary().file()
        for place in range(len(data)):
            for bit in range(8):
                wrong = list(data)
                wrong[place] ^= 1 << bit
                seen, got = look(0, wrong), read(GREATEST_MOST, wrong)
                if seen[0] < 0:
                    self.assertEqual(got, seen)
                else:
                    self.assertEqual(got[0], 4 * seen[1] * seen[2])
                    self.assertEqual(len(got), 1 + got[0])


class Calls(unittest.TestCase):
    def test_kinds(self):
        for data, answer in samples():
            for most in (-1, 0, GREATEST_MOST):
                got = read(most, data)
                self.assertIs(type(got), list)
                self.assertEqual({type(number) for number in got}, {int})
                self.assertTrue(all(0 <= number <= 255 for number in got[1:]))

    def test_by_name(self):
        self.assertEqual(read(most=4, data=uniform(1, 1).file()), [4, 0, 7, 0, 255])

    def test_data_is_left_alone(self):
        class Watched(list):
            def __setitem__(self, *rest):
                raise AssertionError("changed")

            __delitem__ = __iadd__ = __imul__ = append = extend = insert = pop = remove = clear = sort = reverse = \
                __setitem__

        for data, answer in samples():
            before = list(data)
            got = read(GREATEST_MOST, data)
            self.assertEqual(data, before)
            self.assertEqual(read(GREATEST_MOST, Watched(data)), got)

    def test_a_second_call(self):
        for data, answer in samples():
            for most in (-1, 0, GREATEST_MOST):
                first = read(most, data)
                kept = list(first)
                first.append(99)
                first[0] = 77
                self.assertEqual(read(most, data), kept)
        files = [data for data, answer in samples()]
        once = [read(GREATEST_MOST, data) for data in files]
        again = [read(GREATEST_MOST, data) for data in reversed(files)]
        self.assertEqual(once, again[::-1])

    def test_look_answers_as_before(self):
        for data, answer in samples():
            self.assertEqual(look(0, data), answer)
            read(GREATEST_MOST, data)
            for most in (-1, 0, GREATEST_MOST, GREATEST_MOST + 1):
                self.assertEqual(look(most, data), answer)

    def test_nothing_is_printed(self):
        with contextlib.redirect_stdout(io.StringIO()) as out, contextlib.redirect_stderr(io.StringIO()) as err:
            for data, answer in samples():
                read(GREATEST_MOST, data)
        self.assertEqual(out.getvalue() + err.getvalue(), "")

    def test_the_ordinary_sample(self):
        # (9, 1, 0, 0), then (10, 2, 0, 255) over and over: with green, added up along the first row.
        answer = read(GREATEST_MOST, ordinary().file())
        self.assertEqual(answer[0], 96)
        self.assertEqual(answer[1:25], [10, 1, 1, 255, 22, 3, 3, 254, 34, 5, 5, 253, 46, 7, 7, 252, 58, 9, 9, 251,
                                        70, 11, 11, 250])


class Large(unittest.TestCase):
    def test_every_transform_in_the_largest(self):
        # Nothing is added to what is foretold, so all are as the first: black.
        writer = Writer().head(1024, 1024, 1)
        writer.squares(PREDICTIONS, 7, [(0, 0, 0, 255), (0, 13, 0, 255), (0, 12, 0, 255), (0, 11, 0, 255)])
        writer.transform(GREENS).squares(COLOURS, 7, [(0, 0, 0, 255)] * 4)
        writer.table([(0, 0, 0, 0)] * 17)
        group = writer.own([0, 279], far=[1])
        writer.literals(group, [0] * 4096)
        for repeat in range(255):
            writer.back(group, 4096, 2)
        data = writer.file()
        self.assertEqual(read(GREATEST_MOST, data), [4194304] + [0, 0, 0, 255] * 1048576)

    def test_long_and_narrow(self):
        for width, height in ((16384, 64), (64, 16384)):
            writer = Writer().head(width, height, 1).squares(PREDICTIONS, 7, [(0, 2, 0, 255)] * 32)
            writer.own([1])
            answer = read(GREATEST_MOST, writer.file())
            # Along the first row, then down.
            wanted = [(x + y + 1) % 256 for y in range(height) for x in range(width)]
            self.assertEqual(answer[0], 4194304)
            self.assertEqual(answer[2::4], wanted)

    def test_many_bytes(self):
        colours = noisy(24000, 7)
        writer = transformed(160, 150, colours, [(PREDICTIONS, 1, [(k * 5) % 14 for k in range(380)]), (GREENS,)])
        data = writer.file()
        self.assertTrue(90000 < len(data) <= 100000)
        self.assertEqual(read(GREATEST_MOST, data), told(colours))

    def test_calls_within_one_another(self):
        writer = transformed(90, 90, noisy(8100, 3, 7), [(PREDICTIONS, 7, [13])])
        data = writer.file()
        depth = len([1 for frame in walk(sys._getframe())])
        before = sys.getrecursionlimit()
        sys.setrecursionlimit(depth + 40)
        try:
            answer = read(GREATEST_MOST, data)
        finally:
            sys.setrecursionlimit(before)
        self.assertEqual(answer, told(noisy(8100, 3, 7)))


if __name__ == "__main__":
    unittest.main()
