"""Bits read one after the other, from each byte's lowest on."""

from losslook.refusals import NoSuchFile


class Bits:
    def __init__(self, octets):
        self.octets = octets
        self.place = 0
        self.end = 8 * len(octets)

    def left(self):
        return self.end - self.place

    def bit(self):
        place = self.place
        if place == self.end:
            raise NoSuchFile()
        self.place = place + 1
        return (self.octets[place >> 3] >> (place & 7)) & 1

    def number(self, width):
        answer = 0
        for k in range(width):
            answer |= self.bit() << k
        return answer
