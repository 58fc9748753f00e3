"""A picture that is being read: its colours so far, and the cache that they leave behind.

A colour is one number of 32 bits: alpha, red, green, blue, from the highest on.
"""

from losslook.refusals import NoSuchFile

SPREAD = 0x1E35A7BD
LOW_32 = 0xFFFFFFFF


class Canvas:
    # depth is the cache's c, or 0 if there is no cache.
    def __init__(self, width, height, depth):
        self.width = width
        self.size = width * height
        self.colours = []
        self.depth = depth
        self.cache = [0] * (1 << depth)

    def put(self, colour):
        self.colours.append(colour)
        if self.depth > 0:
            self.cache[(SPREAD * colour & LOW_32) >> (32 - self.depth)] = colour

    def put_cached(self, slot):
        self.put(self.cache[slot])

    def repeat(self, length, distance):
        begin = len(self.colours) - distance
        if begin < 0 or len(self.colours) + length > self.size:
            raise NoSuchFile()
        # One by one: a length above the distance takes up what it has put down itself.
        for place in range(begin, begin + length):
            self.put(self.colours[place])
