"""Tables of colours, and how elements that stand for their places are unpacked."""

from losslook.coded import divided_up
from losslook.parts import added


class Table:
    # shift: how often the width is halved, so that 1 << shift places are packed in one green.
    def __init__(self, width, shift, colours):
        self.width = width
        self.shift = shift
        # All 0 for each place without a colour.
        self.colours = colours + [0] * (256 - len(colours))

    def packed_width(self):
        return divided_up(self.width, self.shift)

    def undone(self, colours):
        across = self.packed_width()
        done = []
        for begin in range(0, len(colours), across):
            done.extend(self.unpacked(colours[begin:begin + across]))
        return done

    def unpacked(self, row):
        bits_each = 8 >> self.shift
        lowest = (1 << bits_each) - 1
        within = (1 << self.shift) - 1
        answer = []
        for x in range(self.width):
            green = row[x >> self.shift] >> 8 & 255
            place = (green >> (x & within) * bits_each) & lowest
            answer.append(self.colours[place])
        return answer


def shift_for(size):
    if size <= 2:
        return 3
    if size <= 4:
        return 2
    if size <= 16:
        return 1
    return 0


def running_sums(colours):
    sums = []
    before = 0
    for colour in colours:
        before = added(before, colour)
        sums.append(before)
    return sums
