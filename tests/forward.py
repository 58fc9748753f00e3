"""The transforms as a writer does them, for the tests alone: what is read must be what they began with.

A picture is a list of colours (red, green, blue, alpha), row by row, and its width.
"""

from writer import COLOURS, GREENS, PREDICTIONS, TABLE, Writer

BLACK = (0, 0, 0, 255)


def up(number, side):
    return -(-number // side)


def noise(state):
    """Numbers from 0 to 255 that look like any."""
    while True:
        state = (state * 1103515245 + 12345) % (1 << 31)
        yield state >> 16 & 255


def noisy(count, state, mask=255):
    """So many colours whose parts look like any."""
    numbers = noise(state)
    return [tuple(next(numbers) & mask for part in range(4)) for each in range(count)]


def less(colour, other):
    return tuple((one - two) % 256 for one, two in zip(colour, other))


def brought(number):
    return sorted((0, number, 255))[1]


def foretold_part(mode, left, top, right, corner):
    """right and corner are above, to the right and to the left."""
    middle = (left + top) // 2
    return {
        1: left, 2: top, 3: right, 4: corner,
        5: ((left + right) // 2 + top) // 2,
        6: (left + corner) // 2,
        7: middle,
        8: (corner + top) // 2,
        9: (top + right) // 2,
        10: ((left + corner) // 2 + (top + right) // 2) // 2,
        12: brought(left + top - corner),
        # int goes toward zero.
        13: brought(middle + int((middle - corner) / 2)),
    }[mode]


def foretold(mode, left, top, right, corner):
    if mode == 0:
        return BLACK
    if mode == 11:
        by_top = sum(abs(one - two) for one, two in zip(top, corner))
        by_left = sum(abs(one - two) for one, two in zip(left, corner))
        return left if by_top < by_left else top
    return tuple(foretold_part(mode, *parts) for parts in zip(left, top, right, corner))


def predicted(colours, width, exponent, modes):
    """What is left of each colour when what is foretold is taken away; modes: one for each square."""
    side = 4 << exponent
    across = up(width, side)
    left = []
    for place, colour in enumerate(colours):
        x, y = place % width, place // width
        if place == 0:
            guess = BLACK
        elif y == 0:
            guess = colours[place - 1]
        elif x == 0:
            guess = colours[place - width]
        else:
            right = colours[y * width] if x == width - 1 else colours[place - width + 1]
            guess = foretold(modes[y // side * across + x // side], colours[place - 1], colours[place - width], right,
                             colours[place - width - 1])
        left.append(less(colour, guess))
    return left


def signed(octet):
    return octet - 256 if octet >= 128 else octet


def share(one, other):
    return signed(one) * signed(other) >> 5


def factored(colours, width, exponent, factors):
    """factors: f, g, h for each square."""
    side = 4 << exponent
    across = up(width, side)
    left = []
    for place, (red, green, blue, alpha) in enumerate(colours):
        f, g, h = factors[place // width // side * across + place % width // side]
        left.append(((red - share(h, green)) % 256, green, (blue - share(g, green) - share(f, red)) % 256, alpha))
    return left


def greened(colours):
    return [((red - green) % 256, green, (blue - green) % 256, alpha) for red, green, blue, alpha in colours]


def packed_in_one(count):
    return 8 if count <= 2 else 4 if count <= 4 else 2 if count <= 16 else 1


def packed(places, width, count, rest=(0, 0, 255)):
    """Places of a table of so many colours, in greens; rest: the red, blue and alpha beside them."""
    many = packed_in_one(count)
    greens = []
    for begin in range(0, len(places), width):
        row = places[begin:begin + width]
        for x in range(0, width, many):
            greens.append(sum(place << 8 // many * k for k, place in enumerate(row[x:x + many])))
    return [(rest[0], green, rest[1], rest[2]) for green in greens]


def differences(table):
    return [less(colour, before) for colour, before in zip(table, [(0, 0, 0, 0)] + table)]


def squares_count(width, height, exponent):
    return up(width, 4 << exponent) * up(height, 4 << exponent)


def transformed(width, height, colours, steps, alphas=1):
    """The file of this picture.

    steps, in the order in which they are told: (PREDICTIONS, exponent, modes), (COLOURS, exponent, factors), (GREENS,)
    or (TABLE, count): a table of the colours that there are then, and of others behind them up to that count.
    """
    writer = Writer().head(width, height, alphas)
    for kind, *rest in steps:
        if kind == PREDICTIONS:
            writer.squares(PREDICTIONS, rest[0], [(9, mode, 77, 1) for mode in rest[1]])
            colours = predicted(colours, width, *rest)
        elif kind == COLOURS:
            writer.squares(COLOURS, rest[0], [(f, g, h, 255) for f, g, h in rest[1]])
            colours = factored(colours, width, *rest)
        elif kind == GREENS:
            writer.transform(GREENS)
            colours = greened(colours)
        elif kind == TABLE:
            table = sorted(set(colours))
            table = table + noisy(rest[0] - len(table), 5)
            assert len(table) == rest[0]
            writer.table(differences(table))
            colours = packed([table.index(colour) for colour in colours], width, len(table))
            width = up(width, packed_in_one(len(table)))
    return writer.colours(colours)
