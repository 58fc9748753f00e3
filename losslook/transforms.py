"""The transforms that stand ahead of the coded picture."""

from losslook.coded import divided_up
from losslook.coded import read_plain_picture
from losslook.coded import read_squares
from losslook.refusals import NoSuchFile

PREDICTIONS = 0
COLOURS = 1
TABLE = 3
GREATEST_MODE = 13


def read_transforms(bits, width, height):
    # Answers the width behind the transforms: a table makes the picture narrower.
    seen = []
    while bits.bit() == 1:
        kind = bits.number(2)
        if kind in seen:
            raise NoSuchFile()
        seen.append(kind)
        width = read_transform(bits, kind, width, height)
    return width


def read_transform(bits, kind, width, height):
    if kind == PREDICTIONS:
        read_modes(bits, width, height)
    elif kind == COLOURS:
        read_squares(bits, width, height)
    elif kind == TABLE:
        return divided_up(width, read_packing(bits))
    return width


def read_modes(bits, width, height):
    squares = read_squares(bits, width, height)
    for colour in squares.colours:
        if (colour >> 8 & 255) > GREATEST_MODE:
            raise NoSuchFile()
    return squares


def read_packing(bits):
    # Answers how often the width is halved.
    size = bits.number(8) + 1
    read_plain_picture(bits, size, 1)
    if size <= 2:
        return 3
    if size <= 4:
        return 2
    if size <= 16:
        return 1
    return 0
