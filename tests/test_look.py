"""look as it is called: its answers' kinds, what it leaves alone, and large inputs."""

import contextlib
import io
import sys
import unittest

from losslook.pictures import look
from writer import GREENS, NO_FILE, PREDICTIONS, TOO_LARGE, Writer, framed, looks, uniform

MOSTS = (-2147483648, -1, 0, 1, 23, 24, 4194304, 4194305, 2147483647)


def ordinary():
    writer = Writer().head(6, 4, 1).transform(PREDICTIONS).put(0, 3)
    group = writer.plain([13, 5])
    writer.literals(group, [5, 13])
    writer.transform(GREENS)
    group = writer.own([1, 2, 258, 281], [9, 10], alpha=[0, 255], far=[1, 4], depth=3)
    writer.literal(group, 1, 9, alpha=0).literal(group, 2, 10).cached(group, 1)
    for repeat in range(7):
        writer.back(group, 3, 2)
    return writer


def samples():
    return ((ordinary().file(), [0, 6, 4]), (uniform(2, 9).file(), [0, 2, 9]), (uniform(2, 9).file()[:-1], NO_FILE),
            ([], NO_FILE), (uniform(2000, 2000).file(), TOO_LARGE))


class Calls(unittest.TestCase):
    def test_answers(self):
        for data, answer in samples():
            self.assertEqual(look(0, data), answer)

    def test_kinds(self):
        for data, answer in samples():
            got = look(0, data)
            self.assertIs(type(got), list)
            self.assertEqual([type(number) for number in got], [int] * len(answer))

    def test_most_changes_nothing(self):
        for data, answer in samples():
            for most in MOSTS:
                self.assertEqual(look(most, data), answer)

    def test_data_is_left_alone(self):
        class Watched(list):
            def __setitem__(self, *rest):
                raise AssertionError("changed")

            __delitem__ = __iadd__ = __imul__ = append = extend = insert = pop = remove = clear = sort = reverse = \
                __setitem__

        for data, answer in samples():
            before = list(data)
            self.assertEqual(look(0, data), answer)
            self.assertEqual(data, before)
            self.assertEqual(look(0, Watched(data)), answer)

    def test_a_second_call(self):
        for data, answer in samples():
            first = look(0, data)
            first.append(99)
            self.assertEqual(look(0, data), answer)
        together = [look(0, data) for data, answer in samples() + samples()[::-1]]
        self.assertEqual(together, [answer for data, answer in samples() + samples()[::-1]])

    def test_by_name(self):
        self.assertEqual(look(most=5, data=uniform(3, 4).file()), [0, 3, 4])

    def test_nothing_is_printed(self):
        with contextlib.redirect_stdout(io.StringIO()) as out, contextlib.redirect_stderr(io.StringIO()) as err:
            for data, answer in samples():
                look(0, data)
        self.assertEqual(out.getvalue() + err.getvalue(), "")

    def test_every_cut_and_every_wrong_bit_is_answered(self):
        data = ordinary().file()
        for cut in range(len(data)):
            self.assertEqual(look(0, data[:cut]), NO_FILE)
        for place in range(len(data)):
            for bit in range(8):
                wrong = list(data)
                wrong[place] ^= 1 << bit
                self.assertIn(look(0, wrong)[0], (0, -3, -4))


class Large(unittest.TestCase):
    def check(self, writer, answer):
        data = writer.file()
        self.assertLessEqual(len(data), 100000)
        self.assertEqual(look(0, data), answer)

    def test_many_literals(self):
        writer = Writer().head(155, 160)
        group = writer.own(*[list(range(256))] * 4)
        for k in range(155 * 160):
            writer.literal(group, k * 7 & 255, k * 31 & 255, k >> 3 & 255, k * k & 255)
        self.check(writer, [0, 155, 160])

    def test_many_groups(self):
        count = 39000
        writer = Writer().head(4, 4).put(0, 2).put(1, 1).put(0, 3)
        writer.plain([(count - 1) % 256], [(count - 1) // 256])
        for code in range(5 * count):
            writer.one(0, wide=False)
        self.check(writer, [0, 4, 4])

    def test_many_large_codes(self):
        count = 1000
        writer = Writer().head(4, 4).put(0, 1).cache(11).put(1, 1).put(0, 3)
        writer.plain([(count - 1) % 256], [(count - 1) // 256])
        for group in range(count):
            writer.length_code({11: 1}, 15)
            writer.most(2048)
            for code in range(4):
                writer.one(0, wide=False)
        self.check(writer.put(0, 16 * 11), [0, 4, 4])

    def test_the_largest_with_everything(self):
        writer = Writer().head(1024, 1024)
        for kind in (0, 1):
            writer.transform(kind).put(0, 3)
            writer.literals(writer.plain([0, 13]), [0, 13] * 32768)
        writer.put(0, 1).cache(11).put(1, 1).put(0, 3)
        writer.literals(writer.plain([0, 1]), [0, 1] * 32768)
        writer.group([7], depth=11)
        writer.group([8], depth=11)
        self.check(writer, [0, 1024, 1024])

    def test_the_largest_by_lengths(self):
        writer = Writer().head(16384, 64)
        group = writer.own([1, 279], far=[1], depth=6)
        writer.literals(group, [1] * 4096)
        for repeat in range(255):
            writer.back(group, 4096, 2)
        self.check(writer, [0, 16384, 64])

    def test_calls_within_one_another(self):
        depth = len([1 for frame in walk(sys._getframe())])
        before = sys.getrecursionlimit()
        sys.setrecursionlimit(depth + 40)
        try:
            self.assertEqual(look(0, uniform(300, 300).file()), [0, 300, 300])
        finally:
            sys.setrecursionlimit(before)


def walk(frame):
    while frame:
        yield frame
        frame = frame.f_back


class Noise(unittest.TestCase):
    def test_bits_of_any_kind_are_answered(self):
        state = 1
        for count in list(range(60)) * 5:
            octets = []
            for k in range(count):
                state = (state * 1103515245 + 12345) % (1 << 31)
                octets.append(state >> 16 & 255)
            octets = Writer().head(9, 7).octets() + octets
            self.assertIn(look(0, framed(octets)), ([0, 9, 7], NO_FILE))

    def test_the_bits_that_fill_the_last_byte_may_be_any(self):
        self.assertEqual(looks(ordinary()), [0, 6, 4])


if __name__ == "__main__":
    unittest.main()
