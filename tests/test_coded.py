"""Coded pictures: lengths and distances, the cache, the groups."""

import unittest

from losslook.pictures import look
from writer import FAR, FIRST, NO_FILE, Writer, looks, slot_of, value_parts

PAIRS = (
    (0, 1), (1, 0), (1, 1), (-1, 1), (0, 2), (2, 0), (1, 2), (-1, 2), (2, 1), (-2, 1), (2, 2), (-2, 2),
    (0, 3), (3, 0), (1, 3), (-1, 3), (3, 1), (-3, 1), (2, 3), (-2, 3), (3, 2), (-3, 2), (0, 4), (4, 0),
    (1, 4), (-1, 4), (4, 1), (-4, 1), (3, 3), (-3, 3), (2, 4), (-2, 4), (4, 2), (-4, 2), (0, 5), (3, 4),
    (-3, 4), (4, 3), (-4, 3), (5, 0), (1, 5), (-1, 5), (5, 1), (-5, 1), (2, 5), (-2, 5), (5, 2), (-5, 2),
    (4, 4), (-4, 4), (3, 5), (-3, 5), (5, 3), (-5, 3), (0, 6), (6, 0), (1, 6), (-1, 6), (6, 1), (-6, 1),
    (2, 6), (-2, 6), (6, 2), (-6, 2), (4, 5), (-4, 5), (5, 4), (-5, 4), (3, 6), (-3, 6), (6, 3), (-6, 3),
    (0, 7), (7, 0), (1, 7), (-1, 7), (5, 5), (-5, 5), (7, 1), (-7, 1), (4, 6), (-4, 6), (6, 4), (-6, 4),
    (2, 7), (-2, 7), (7, 2), (-7, 2), (3, 7), (-3, 7), (7, 3), (-7, 3), (5, 6), (-5, 6), (6, 5), (-6, 5),
    (8, 0), (4, 7), (-4, 7), (7, 4), (-7, 4), (8, 1), (8, 2), (6, 6), (-6, 6), (8, 3), (5, 7), (-5, 7),
    (7, 5), (-7, 5), (8, 4), (6, 7), (-6, 7), (7, 6), (-7, 6), (8, 5), (7, 7), (-7, 7), (8, 6), (8, 7),
)


def back_file(width, height, before, length, value, behind=0):
    """So many elements, then a length and a distance's value, then elements again."""
    writer = Writer().head(width, height)
    group = writer.own([1, 256 + value_parts(length)[0]], far=[value_parts(value)[0]])
    writer.literals(group, [1] * before)
    writer.back(group, length, value)
    return writer.literals(group, [1] * behind)


class Literals(unittest.TestCase):
    def test_several_rows(self):
        writer = Writer().head(5, 4, 1)
        group = writer.own(list(range(11)), list(range(5)), list(range(100, 107)), [0, 255])
        for k in range(20):
            writer.literal(group, k % 11, k % 5, 100 + k % 7, 255 * (k % 2))
        self.assertEqual(looks(writer), [0, 5, 4])

    def test_a_picture_that_ends_too_early(self):
        for count in range(16):
            writer = Writer().head(4, 4)
            group = writer.own(list(range(256)))
            writer.literals(group, range(count))
            self.assertEqual(looks(writer), NO_FILE)

    def test_red_blue_alpha_in_this_order(self):
        # A word of the wrong code would take another number of bits.
        for red, blue, alpha in ((0, 0, 1), (0, 3, 1), (9, 3, 1), (9, 0, 0), (9, 0, 1), (0, 3, 0)):
            writer = Writer().head(4, 4)
            writer.put(0, 2).put(1, 1).put(0, 3).cache(0)
            codes = [writer.one(0), writer.lengths(256, {0: 1, 9: 2, 12: 2}),
                     writer.lengths(256, {0: 3, 1: 3, 2: 2, 3: 1}), writer.two(0, 1), writer.one(0)]
            writer.literal(codes, 0, red, blue, alpha)
            for group in range(256 * red + 1):
                writer.put(0b00010001000100010001, 20)
            self.assertEqual(looks(writer), [0, 4, 4])


class Lengths(unittest.TestCase):
    def test_each_symbol_to_the_very_last_element_and_past_it(self):
        for symbol in range(24):
            extra = max(0, (symbol - 2) // 2)
            for number in {0, 1 & (1 << extra) - 1, (1 << extra) - 1}:
                length = symbol + 1 if symbol < 4 else ((2 + symbol % 2) << extra) + number + 1
                self.assertEqual(value_parts(length), (symbol, number, extra))
                self.assertEqual(looks(back_file(1 + length, 1, 1, length, 2)), [0, 1 + length, 1])
                self.assertEqual(looks(back_file(1 + length, 1, 2, length, 2)), NO_FILE)
                self.assertEqual(looks(back_file(2 + length, 1, 1, length, 2, 1)), [0, 2 + length, 1])

    def test_the_longest(self):
        self.assertEqual(looks(back_file(241, 17, 1, 4096, 2)), [0, 241, 17])
        self.assertEqual(looks(back_file(256, 16, 1, 4096, 2)), NO_FILE)

    def test_a_length_after_rows(self):
        self.assertEqual(looks(back_file(5, 4, 13, 7, 1)), [0, 5, 4])
        self.assertEqual(looks(back_file(5, 4, 13, 8, 1)), NO_FILE)
        self.assertEqual(looks(back_file(5, 4, 13, 6, 1, 1)), [0, 5, 4])

    def test_a_length_at_the_very_beginning(self):
        for value in (1, 2, 3, 120, 121, 122, 2000):
            self.assertEqual(looks(back_file(5, 4, 0, 1, value, 19)), NO_FILE)


class Distances(unittest.TestCase):
    def reaches(self, width, value, distance):
        """The distance goes to the very first element from there, and before it from one nearer."""
        height = distance // width + 1
        size = width * height
        good = back_file(width, height, distance, 1, value, size - distance - 1)
        bad = back_file(width, height, distance - 1, 1, value, size - distance)
        self.assertEqual(look(0, good.file()), [0, width, height])
        self.assertEqual(look(0, bad.file()), NO_FILE)

    def test_every_pair(self):
        self.assertEqual(len(PAIRS), 120)
        for value, (x, y) in enumerate(PAIRS, 1):
            self.reaches(20, value, x + 20 * y)

    def test_pairs_in_narrow_pictures(self):
        for width in (1, 2, 3, 5, 7):
            for value, (x, y) in enumerate(PAIRS, 1):
                self.reaches(width, value, max(1, x + width * y))

    def test_far_ones(self):
        for value in (121, 122, 123, 130, 255, 256, 257, 600, 1000):
            self.reaches(50, value, value - 120)
            self.reaches(3, value, value - 120)

    def test_each_symbol(self):
        for symbol in range(14, 24):
            extra = (symbol - 2) // 2
            for number in (0, 1, (1 << extra) - 1):
                value = ((2 + symbol % 2) << extra) + number + 1
                self.assertEqual(value_parts(value), (symbol, number, extra))
                self.reaches(100, value, value - 120 if value > 120 else
                             max(1, PAIRS[value - 1][0] + 100 * PAIRS[value - 1][1]))

    def far_file(self, before, value):
        """A large picture: one element, the rest repeated up to there, then a far one."""
        writer = Writer().head(1024, 1024)
        group = writer.own([1, 256, 279], far=[1, value_parts(value)[0]])
        writer.literal(group, 1)
        for repeat in range((before - 1) // 4096):
            writer.back(group, 4096, 2)
        writer.literals(group, [1] * ((before - 1) % 4096)).back(group, 1, value)
        for repeat in range((1048576 - before - 1) // 4096):
            writer.back(group, 4096, 2)
        writer.literals(group, [1] * ((1048576 - before - 1) % 4096))
        return writer.file()

    def test_the_farthest(self):
        self.assertEqual(look(0, self.far_file(1048456, 1048576)), [0, 1024, 1024])
        self.assertEqual(look(0, self.far_file(1048455, 1048576)), NO_FILE)
        self.assertEqual(look(0, self.far_file(786313, 786433)), [0, 1024, 1024])
        self.assertEqual(look(0, self.far_file(786312, 786433)), NO_FILE)


class Observed:
    """The elements' picture over squares whose colours show: each group takes other bits."""

    def __init__(self, across, down, depth, first, blue=(0,), alpha=(255,), far=(0,)):
        self.writer = Writer().head(4 * across, 4 * down)
        self.across, self.down = across, down
        self.writer.put(0, 2).put(1, 1).put(0, 3).cache(depth)
        self.group = self.writer.group(first, (0,), blue, alpha, far, depth)

    def finish(self, greens):
        assert len(greens) == self.across * self.down
        codes = []
        for number in range(max(greens) + 1):
            codes.append(self.writer.group(list(range(1 << number))))
        for y in range(4 * self.down):
            for x in range(4 * self.across):
                number = greens[y // 4 * self.across + x // 4]
                self.writer.literal(codes[number], (1 << number) - 1)
        return self.writer

    def answer(self):
        return [0, 4 * self.across, 4 * self.down]


class Cache(unittest.TestCase):
    def test_depths(self):
        for depth in range(16):
            writer = Writer().head(2, 1).put(0, 1).put(1, 1).put(depth, 4).put(0, 1)
            good = 1 <= depth <= 11
            group = writer.group([7], depth=depth if good else 0)
            writer.literals(group, [7, 7])
            self.assertEqual(looks(writer), [0, 2, 1] if good else NO_FILE)

    def test_depths_of_other_pictures(self):
        for depth in range(16):
            writer = Writer().head(2, 1).transform(0).put(0, 3).put(1, 1).put(depth, 4)
            good = 1 <= depth <= 11
            writer.group([7], depth=depth if good else 0)
            writer.own([7])
            self.assertEqual(looks(writer), [0, 2, 1] if good else NO_FILE)

    def test_every_place_may_be_asked_for(self):
        for depth in (1, 4, 11):
            for slot in (0, 1, (1 << depth) - 1):
                writer = Writer().head(3, 1)
                group = writer.own([5, 280 + slot], depth=depth)
                writer.cached(group, slot).literal(group, 5).cached(group, slot)
                self.assertEqual(looks(writer), [0, 3, 1])

    def test_the_place_of_a_colour(self):
        for depth in range(1, 12):
            for colour in ((1, 0, 0, 255), (2, 0, 77, 3), (1, 0, 255, 0), (3, 0, 1, 128)):
                slot = slot_of(depth, *colour)
                seen = Observed(3, 1, depth, [colour[0], 280 + slot], [colour[2]], [colour[3]])
                seen.writer.cached(seen.group, slot).literal(seen.group, *colour).cached(seen.group, slot)
                writer = seen.finish([0, colour[0], colour[0]])
                self.assertEqual(looks(writer), seen.answer())

    def test_another_place_is_still_0(self):
        for depth in range(1, 12):
            slot = slot_of(depth, 2) ^ 1
            seen = Observed(3, 1, depth, [2, 280 + slot])
            seen.writer.literal(seen.group, 2).cached(seen.group, slot).literal(seen.group, 2)
            self.assertEqual(looks(seen.finish([2, 0, 2])), seen.answer())

    def alike(self, depth):
        """Two colours of one place, green 1 and green 2."""
        blues = range(256)
        return next((slot_of(depth, 1, 0, one), one, two) for one in blues for two in blues
                    if slot_of(depth, 1, 0, one) == slot_of(depth, 2, 0, two))

    def test_the_last_before_with_that_place(self):
        for depth in (1, 2, 5, 8):
            slot, one, two = self.alike(depth)
            seen = Observed(4, 2, depth, [1, 2, 256, 280 + slot], [one, two] if one != two else [one], far=[1])
            writer, group = seen.writer, seen.group
            writer.literal(group, 1, 0, one).literal(group, 2, 0, two).cached(group, slot)
            writer.literal(group, 1, 0, one).cached(group, slot).literal(group, 2, 0, two).cached(group, slot)
            writer.cached(group, slot)
            self.assertEqual(looks(seen.finish([1, 2, 2, 1, 1, 2, 2, 2])), seen.answer())

    def test_repeated_ones_are_kept_too(self):
        for depth in (1, 2, 5, 8):
            slot, one, two = self.alike(depth)
            # The pair of 6 is (2, 0): what comes back is the first again.
            seen = Observed(5, 1, depth, [1, 2, 256, 280 + slot], [one, two] if one != two else [one], far=[4])
            writer, group = seen.writer, seen.group
            writer.literal(group, 1, 0, one).literal(group, 2, 0, two).back(group, 1, 6).cached(group, slot)
            writer.literal(group, 2, 0, two)
            self.assertEqual(looks(seen.finish([1, 2, 1, 1, 2])), seen.answer())

    def test_the_0_of_an_empty_place_is_kept_too(self):
        for depth in (3, 6):
            colour = next((1, 0, blue, 255) for blue in range(256) if slot_of(depth, 1, 0, blue, 255) == 0)
            seen = Observed(4, 1, depth, [1, 280, 283], [colour[2]])
            writer, group = seen.writer, seen.group
            writer.literal(group, *colour).cached(group, 0).cached(group, 3).cached(group, 0)
            self.assertEqual(looks(seen.finish([1, 1, 0, 0])), seen.answer())

    def test_each_picture_has_a_cache_of_its_own(self):
        slot = slot_of(4, 1)
        writer = Writer().head(4, 4).transform(1).put(0, 3)
        group = writer.plain([1], depth=4)
        writer.literal(group, 1)
        writer.put(0, 1).put(0, 1).put(1, 1).put(0, 3)
        group = writer.plain([0, 280 + slot], depth=4)
        writer.cached(group, slot)
        writer.group([3])
        self.assertEqual(looks(writer), [0, 4, 4])

    def test_many_steps(self):
        state = 12345
        for depth in (1, 3, 6, 11):
            steps, colours = [], []
            while len(colours) < 60:
                state = (state * 1103515245 + 12345) % (1 << 31)
                choice, number = state >> 16 & 3, state >> 18
                if choice < 2 or not colours:
                    colours.append((number & 3, 0, number >> 2 & 7, 252 | number >> 5 & 3))
                    steps.append(("literal", colours[-1]))
                elif choice == 2:
                    slot = number % (1 << depth) if number & 64 else slot_of(depth, *colours[number % len(colours)])
                    steps.append(("cached", slot))
                    before = [colour for colour in colours if slot_of(depth, *colour) == slot]
                    colours.append(before[-1] if before else (0, 0, 0, 0))
                else:
                    steps.append(("back", 1 + number % len(colours)))
                    colours.append(colours[-steps[-1][1]])
            slots = sorted({280 + step[1] for step in steps if step[0] == "cached"})
            seen = Observed(10, 6, depth, [0, 1, 2, 3, 256] + slots, range(8), range(252, 256), range(16))
            for name, step in steps:
                if name == "literal":
                    seen.writer.literal(seen.group, *step)
                elif name == "cached":
                    seen.writer.cached(seen.group, step)
                else:
                    seen.writer.back(seen.group, 1, 120 + step)
            self.assertEqual(looks(seen.finish([colour[0] for colour in colours])), seen.answer())


class Repeats(unittest.TestCase):
    def test_colours_that_come_back(self):
        # Pairs go by the squares' own width: (0, 1) is one row of squares up.
        seen = Observed(3, 3, 0, [0, 1, 2, 258], far=[0])
        seen.writer.literals(seen.group, [1, 2, 0]).back(seen.group, 3, 1).back(seen.group, 3, 1)
        self.assertEqual(looks(seen.finish([1, 2, 0] * 3)), seen.answer())

    def test_a_length_above_the_distance(self):
        seen = Observed(7, 1, 0, [1, 2, 260], far=[4])
        seen.writer.literals(seen.group, [1, 2]).word(seen.group[FIRST], 260).put(0, 1)
        seen.writer.word(seen.group[FAR], 4).put(1, 1)
        self.assertEqual(looks(seen.finish([1, 2, 1, 2, 1, 2, 1])), seen.answer())


class Groups(unittest.TestCase):
    def grouped(self, width, height, exponent, numbers, count):
        """Group g's elements take g mod 4 bits each."""
        side = 4 << exponent
        across = -(-width // side)
        writer = Writer().head(width, height).put(0, 2).put(1, 1).put(exponent, 3)
        greens = sorted({number % 256 for number in numbers})
        group = writer.plain(greens, sorted({number // 256 for number in numbers}))
        for number in numbers:
            writer.literal(group, number % 256, number // 256)
        sizes = [1 << number % 4 for number in range(count)]
        codes = []
        for size in sizes:
            codes.append(writer.group(list(range(size))) if size > 1 else writer.group([0]))
        for y in range(height):
            for x in range(width):
                number = numbers[y // side * across + x // side]
                writer.literal(codes[number], sizes[number] - 1)
        return writer

    def test_squares(self):
        for numbers in ([0, 1, 2, 3, 1, 2], [1, 1, 1, 1, 1, 0], [3, 0, 3, 0, 3, 0], [5, 4, 3, 2, 1, 0]):
            count = max(numbers) + 1
            self.assertEqual(looks(self.grouped(9, 5, 0, numbers, count)), [0, 9, 5])
            self.assertEqual(looks(self.grouped(12, 8, 0, numbers, count)), [0, 12, 8])

    def test_each_side(self):
        for exponent in range(8):
            side = 4 << exponent
            for numbers, width, height in (([1, 2], side + 1, 1), ([1, 2], 1, side + 1), ([1], side, 1),
                                           ([2, 1, 0, 3], side + 1, side + 1)):
                if width * height < 100000:
                    writer = self.grouped(width, height, exponent, numbers, max(numbers) + 1)
                    self.assertEqual(looks(writer), [0, width, height])

    def test_as_many_groups_as_the_greatest_says_and_one_more(self):
        for numbers in ([0], [1], [7], [255], [256], [257], [3 * 256 + 2]):
            greatest = max(numbers)
            self.assertEqual(looks(self.grouped(4, 4, 0, numbers, greatest + 1)), [0, 4, 4])
            writer = Writer().head(4, 4).put(0, 2).put(1, 1).put(0, 3)
            group = writer.plain([greatest % 256], [greatest // 256])
            writer.literal(group, greatest % 256, greatest // 256)
            for number in range(greatest):
                writer.group([0])
            self.assertEqual(looks(writer), NO_FILE)
            writer.group([0])
            self.assertEqual(looks(writer), [0, 4, 4])
            writer.group([0])
            self.assertEqual(looks(writer), NO_FILE)

    def test_a_group_that_is_not_used_is_read_strictly(self):
        for wrong in (False, True):
            writer = Writer().head(4, 4).put(0, 2).put(1, 1).put(0, 3)
            writer.plain([2])
            writer.group([0])
            for code in range(5):
                writer.two(3, 3 if wrong and code == 2 else 4)
            writer.group([0])
            self.assertEqual(looks(writer), [0, 4, 4] if not wrong else NO_FILE)

    def test_a_length_belongs_to_where_it_begins(self):
        writer = Writer().head(8, 4).put(0, 2).put(1, 1).put(0, 3)
        group = writer.plain([0, 1])
        writer.literals(group, [0, 1])
        left = writer.group([0, 256, 257])
        right = writer.group(list(range(14)) + [258, 259], far=[0, 1])
        # In the second row a length of 2 begins on the left and one of 4 on the right: each ends on the other side.
        writer.literals(left, [0, 0, 0, 0]).literals(right, [9, 13, 1, 0])
        writer.literals(left, [0, 0, 0]).word(left[FIRST], 257).word(left[FAR], 0)
        writer.literals(right, [5]).word(right[FIRST], 259).word(right[FAR], 1)
        writer.literals(left, [0, 0]).literals(right, [1, 2, 3, 4])
        writer.literals(left, [0, 0, 0, 0]).literals(right, [1]).word(right[FIRST], 258).word(right[FAR], 0)
        self.assertEqual(looks(writer), [0, 8, 4])

    def test_each_groups_first_code_has_the_cache(self):
        writer = Writer().head(8, 4).put(0, 1).cache(2).put(1, 1).put(0, 3)
        group = writer.plain([0, 1])
        writer.literals(group, [0, 1])
        codes = [writer.group([280, 283], depth=2), writer.group([1, 281, 282], depth=2)]
        for y in range(4):
            for x in range(8):
                writer.cached(codes[x // 4], 3 if x < 4 else 1)
        self.assertEqual(looks(writer), [0, 8, 4])

    def test_squares_have_no_groups_of_their_own(self):
        # Where a picture of squares' groups bit would be, its first code begins.
        writer = Writer().head(4, 4).put(0, 2).put(1, 1).put(0, 3).put(0, 1)
        writer.put(0, 1)
        writer.group([0])
        writer.group([0])
        self.assertEqual(looks(writer), NO_FILE)


if __name__ == "__main__":
    unittest.main()
