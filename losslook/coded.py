"""Coded pictures: with one group of codes, or with a group for each square."""

from losslook.canvas import Canvas
from losslook.codes import read_code
from losslook.distances import distance_of
from losslook.distances import read_value
from losslook.refusals import NoSuchFile

# The codes of a group, by their places in it.
FIRST = 0
RED = 1
BLUE = 2
ALPHA = 3
DISTANCE = 4


class Squares:
    # One colour for each square; a square's side is 1 << shift.
    def __init__(self, shift, across, colours):
        self.shift = shift
        self.across = across
        self.colours = colours

    def colour_at(self, x, y):
        return self.colours[(y >> self.shift) * self.across + (x >> self.shift)]


class Groups:
    # squares is None where one group serves the whole picture.
    def __init__(self, squares, groups):
        self.squares = squares
        self.groups = groups

    def group_at(self, x, y):
        if self.squares is None:
            return self.groups[0]
        return self.groups[group_number(self.squares.colour_at(x, y))]


def group_number(colour):
    return colour >> 8 & 0xFFFF


def divided_up(number, shift):
    return (number + (1 << shift) - 1) >> shift


def read_squares(bits, width, height):
    shift = bits.number(3) + 2
    across = divided_up(width, shift)
    colours = read_plain_picture(bits, across, divided_up(height, shift))
    return Squares(shift, across, colours)


def read_plain_picture(bits, width, height):
    depth = read_cache_depth(bits)
    groups = Groups(None, [read_group(bits, depth)])
    return read_colours(bits, Canvas(width, height, depth), groups)


def read_grouped_picture(bits, width, height):
    depth = read_cache_depth(bits)
    groups = read_groups(bits, width, height, depth)
    return read_colours(bits, Canvas(width, height, depth), groups)


def read_cache_depth(bits):
    if bits.bit() == 0:
        return 0
    depth = bits.number(4)
    if depth < 1 or depth > 11:
        raise NoSuchFile()
    return depth


def read_groups(bits, width, height, depth):
    if bits.bit() == 0:
        return Groups(None, [read_group(bits, depth)])
    squares = read_squares(bits, width, height)
    greatest = max([group_number(colour) for colour in squares.colours])
    groups = []
    while len(groups) <= greatest:
        groups.append(read_group(bits, depth))
    return Groups(squares, groups)


def read_group(bits, depth):
    cached = 1 << depth if depth > 0 else 0
    codes = []
    for size in (280 + cached, 256, 256, 256, 40):
        codes.append(read_code(bits, size))
    return codes


def read_colours(bits, canvas, groups):
    while len(canvas.colours) < canvas.size:
        place = len(canvas.colours)
        group = groups.group_at(place % canvas.width, place // canvas.width)
        read_step(bits, canvas, group)
    return canvas.colours


def read_step(bits, canvas, group):
    symbol = group[FIRST].next_symbol(bits)
    if symbol < 256:
        canvas.put(read_colour(bits, symbol, group))
    elif symbol < 280:
        length = read_value(bits, symbol - 256)
        value = read_value(bits, group[DISTANCE].next_symbol(bits))
        canvas.repeat(length, distance_of(value, canvas.width))
    else:
        canvas.put_cached(symbol - 280)


def read_colour(bits, green, group):
    red = group[RED].next_symbol(bits)
    blue = group[BLUE].next_symbol(bits)
    alpha = group[ALPHA].next_symbol(bits)
    return alpha << 24 | red << 16 | green << 8 | blue
