"""Colours and greens: the transforms that take one part of a colour from another, and how they are undone."""

from losslook.parts import ALPHA_AND_GREEN
from losslook.parts import added


class Colours:
    # Each square's red, green, blue are the factors that the document calls f, g, h.
    def __init__(self, width, squares):
        self.width = width
        self.squares = squares

    def undone(self, colours):
        done = []
        for y in range(len(colours) // self.width):
            for x in range(self.width):
                done.append(with_factors(colours[len(done)], self.squares.colour_at(x, y)))
        return done


class Greens:
    def undone(self, colours):
        return [with_green(colour) for colour in colours]


def with_sign(octet):
    return octet - 256 if octet > 127 else octet


def share(factor, part):
    return with_sign(factor) * with_sign(part) // 32


def with_factors(colour, factors):
    green = colour >> 8 & 255
    red = ((colour >> 16) + share(factors & 255, green)) & 255
    blue = (colour + share(factors >> 8 & 255, green) + share(factors >> 16 & 255, red)) & 255
    return colour & ALPHA_AND_GREEN | red << 16 | blue


def with_green(colour):
    green = colour >> 8 & 255
    return added(colour, green << 16 | green)
