"""Colours taken part by part.

A colour is one number of 32 bits: alpha, red, green, blue, from the highest on.
"""

BLACK = 0xFF000000
# Every second part by itself: what a sum carries falls where the mask has nothing.
ALPHA_AND_GREEN = 0xFF00FF00
RED_AND_BLUE = 0x00FF00FF
# All but each part's highest bit: what is halved doesn't run over into the part below.
ALL_BUT_HIGHEST = 0x7F7F7F7F


def added(one, other):
    high = (one & ALPHA_AND_GREEN) + (other & ALPHA_AND_GREEN)
    low = (one & RED_AND_BLUE) + (other & RED_AND_BLUE)
    return high & ALPHA_AND_GREEN | low & RED_AND_BLUE


def half_sum(one, other):
    # A bit that both have counts whole, one that only one has counts half.
    return (one & other) + ((one ^ other) >> 1 & ALL_BUT_HIGHEST)


def difference(one, other):
    return (abs((one >> 24) - (other >> 24)) + abs((one >> 16 & 255) - (other >> 16 & 255))
            + abs((one >> 8 & 255) - (other >> 8 & 255)) + abs((one & 255) - (other & 255)))


def brought_in(part):
    if part < 0:
        return 0
    if part > 255:
        return 255
    return part
