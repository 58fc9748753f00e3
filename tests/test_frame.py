"""The file's frame, the head, and how large a picture may be."""

import unittest

from losslook.pictures import look
from writer import NO_FILE, TOO_LARGE, Writer, framed, looks, uniform


def head_alone(width, height, zeros=0):
    return Writer().head(width, height, 0, zeros).octets()


def sample(reds):
    writer = Writer().head(3, 2)
    group = writer.own([1, 2], reds)
    for green in (1, 2, 2, 1, 1, 2):
        writer.literal(group, green, reds[0])
    return writer


def odd_sample():
    """A picture with an odd k."""
    return sample([3, 4, 5, 6, 7])


def even_sample():
    """A picture with an even k."""
    return sample([3, 4])


class Frame(unittest.TestCase):
    def test_sizes_odd_and_even(self):
        odd = odd_sample().octets()
        even = even_sample().octets()
        self.assertEqual(((1 + len(odd)) % 2, (1 + len(even)) % 2), (1, 0))
        self.assertEqual(look(0, framed(odd)), [0, 3, 2])
        self.assertEqual(look(0, framed(even)), [0, 3, 2])

    def test_wrong_names(self):
        for octets in (odd_sample().octets(), even_sample().octets()):
            for place in range(4):
                for part, name in (("riff", "RIFF"), ("webp", "WEBP"), ("kind", "VP8L")):
                    wrong = name[:place] + "x" + name[place + 1:]
                    self.assertEqual(look(0, framed(octets, **{part: wrong})), NO_FILE)
            self.assertEqual(look(0, framed(octets, kind="VP8 ")), NO_FILE)
            self.assertEqual(look(0, framed(octets, kind="VP8X")), NO_FILE)

    def test_wrong_sizes(self):
        for octets in (odd_sample().octets(), even_sample().octets()):
            for wrong in (-2, -1, 1, 2, 256, 65536, 1 << 24):
                self.assertEqual(look(0, framed(octets, more_s=wrong)), NO_FILE)
                self.assertEqual(look(0, framed(octets, more_k=wrong)), NO_FILE)
                self.assertEqual(look(0, framed(octets, more_s=wrong, more_k=wrong)), NO_FILE)

    def test_size_of_nothing(self):
        nothing = [*b"RIFF", 12, 0, 0, 0, *b"WEBPVP8L", 0, 0, 0, 0]
        self.assertEqual(look(0, nothing), NO_FILE)
        self.assertEqual(look(0, nothing + [0x2F]), NO_FILE)
        self.assertEqual(look(0, framed([])), NO_FILE)

    def test_wrong_signature(self):
        for sign in (0, 0x2E, 0x6F, 0xFF):
            self.assertEqual(look(0, framed(odd_sample().octets(), sign=sign)), NO_FILE)
            self.assertEqual(look(0, framed(head_alone(16384, 16384), sign=sign)), NO_FILE)

    def test_wrong_padding(self):
        octets = odd_sample().octets()
        for padding in (1, 128, 255):
            self.assertEqual(look(0, framed(octets, padding=padding)), NO_FILE)
        # With an even k the last byte is one of the bits' own.
        self.assertEqual(look(0, even_sample().file(1)), [0, 3, 2])

    def test_nothing_at_all(self):
        self.assertEqual(look(0, []), NO_FILE)
        self.assertEqual(look(0, [0]), NO_FILE)
        self.assertEqual(look(0, [0] * 100000), NO_FILE)
        self.assertEqual(look(0, [255] * 21), NO_FILE)

    def test_cut_at_each_byte(self):
        for writer in (odd_sample(), even_sample()):
            data = writer.file()
            self.assertEqual(look(0, data), [0, 3, 2])
            for cut in range(len(data)):
                self.assertEqual(look(0, data[:cut]), NO_FILE)

    def test_cut_bits_in_a_right_frame(self):
        for writer in (odd_sample(), even_sample()):
            octets = writer.octets()
            for cut in range(len(octets)):
                self.assertEqual(look(0, framed(octets[:cut])), NO_FILE)

    def test_a_byte_behind(self):
        for writer in (odd_sample(), even_sample()):
            self.assertEqual(look(0, writer.file() + [0]), NO_FILE)
            self.assertEqual(look(0, writer.file() + [0, 0]), NO_FILE)
            self.assertEqual(look(0, framed(writer.octets() + [0])), NO_FILE)


class Head(unittest.TestCase):
    def test_widths_and_heights(self):
        for width, height in ((1, 1), (1, 2), (2, 1), (255, 3), (257, 2), (16384, 1), (1, 16384), (5000, 17)):
            self.assertEqual(looks(uniform(width, height)), [0, width, height])

    def test_alphas(self):
        for alphas in (0, 1):
            writer = Writer().head(2, 2, alphas)
            group = writer.own([9], alpha=[10, 200])
            for alpha in (10, 200, 200, 10):
                writer.literal(group, 9, alpha=alpha)
            self.assertEqual(looks(writer), [0, 2, 2])

    def test_the_three_zeros(self):
        for zeros in range(1, 8):
            writer = Writer().head(3, 2, 0, zeros)
            writer.own([7])
            self.assertEqual(looks(writer), NO_FILE)

    def test_bits_left(self):
        lefts = []
        for count in range(1, 9):
            writer = Writer().head(count, 1)
            group = writer.own([1, 2])
            writer.literals(group, [2] * count)
            lefts.append(-len(writer.bits) % 8)
            self.assertEqual(looks(writer), [0, count, 1])
            # One byte more: where no bits were left, 8 are.
            self.assertEqual(look(0, framed(writer.octets() + [0])), NO_FILE)
        self.assertEqual(sorted(lefts), [0, 1, 2, 3, 4, 5, 6, 7])


class Size(unittest.TestCase):
    def test_the_largest(self):
        for width, height in ((1024, 1024), (64, 16384), (16384, 64)):
            self.assertEqual(look(0, uniform(width, height).file()), [0, width, height])

    def test_the_largest_must_be_as_told_too(self):
        self.assertEqual(look(0, framed(head_alone(1024, 1024))), NO_FILE)
        self.assertEqual(look(0, framed(uniform(1024, 1024).octets() + [0])), NO_FILE)

    def test_larger(self):
        # 163 times 6433 is the least above the largest that the head can tell.
        for width, height in ((1025, 1024), (1024, 1025), (16384, 65), (65, 16384), (16384, 16384), (163, 6433)):
            self.assertGreater(width * height, 1048576)
            self.assertEqual(look(0, uniform(width, height).file()), TOO_LARGE)

    def test_nothing_behind_is_looked_at(self):
        octets = head_alone(1025, 1024)
        for behind in ([], [0], [255], [0] * 50, [255] * 99):
            self.assertEqual(look(0, framed(octets + behind)), TOO_LARGE)

    def test_frame_and_head_of_a_larger_one(self):
        octets = head_alone(1025, 1024)
        self.assertEqual(look(0, framed(octets, more_s=1)), NO_FILE)
        self.assertEqual(look(0, framed(octets, more_k=2)), NO_FILE)
        self.assertEqual(look(0, framed(octets, riff="RIFX")), NO_FILE)
        self.assertEqual(look(0, framed(octets, webp="WEBQ")), NO_FILE)
        self.assertEqual(look(0, framed(octets, kind="VP8 ")), NO_FILE)
        self.assertEqual(look(0, framed(octets, padding=1)), NO_FILE)
        self.assertEqual(look(0, framed(octets) + [0]), NO_FILE)
        for cut in range(4):
            self.assertEqual(look(0, framed(octets[:cut])), NO_FILE)
        for zeros in range(1, 8):
            self.assertEqual(look(0, framed(head_alone(1025, 1024, zeros))), NO_FILE)


if __name__ == "__main__":
    unittest.main()
