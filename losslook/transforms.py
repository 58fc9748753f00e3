"""The transforms that stand ahead of the coded picture."""

from losslook.coded import read_plain_picture
from losslook.coded import read_squares
from losslook.factors import Colours
from losslook.factors import Greens
from losslook.predictions import Predictions
from losslook.refusals import NoSuchFile
from losslook.tables import Table
from losslook.tables import running_sums
from losslook.tables import shift_for

PREDICTIONS = 0
COLOURS = 1
GREENS = 2
TABLE = 3
GREATEST_MODE = 13


class Transforms:
    # width is the coded picture's: a table makes it narrower for all that is read behind it.
    def __init__(self, width, height):
        self.width = width
        self.height = height
        self.kinds = []
        self.steps = []

    def take(self, bits, kind):
        if kind in self.kinds:
            raise NoSuchFile()
        self.kinds.append(kind)
        if kind == PREDICTIONS:
            self.steps.append(Predictions(self.width, read_modes(bits, self.width, self.height)))
        elif kind == COLOURS:
            self.steps.append(Colours(self.width, read_squares(bits, self.width, self.height)))
        elif kind == GREENS:
            self.steps.append(Greens())
        elif kind == TABLE:
            table = read_table(bits, self.width)
            self.steps.append(table)
            self.width = table.packed_width()

    def undone(self, colours):
        for step in reversed(self.steps):
            colours = step.undone(colours)
        return colours


def read_transforms(bits, width, height):
    transforms = Transforms(width, height)
    while bits.bit() == 1:
        transforms.take(bits, bits.number(2))
    return transforms


def read_modes(bits, width, height):
    squares = read_squares(bits, width, height)
    for colour in squares.colours:
        if (colour >> 8 & 255) > GREATEST_MODE:
            raise NoSuchFile()
    return squares


def read_table(bits, width):
    size = bits.number(8) + 1
    differences = read_plain_picture(bits, size, 1)
    return Table(width, shift_for(size), running_sums(differences))
