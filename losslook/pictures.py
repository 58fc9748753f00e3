"""What is asked of a file: look and read."""

from losslook.contents import read_contents
from losslook.refusals import NoSuchFile
from losslook.refusals import OutOfRange
from losslook.refusals import TooLarge
from losslook.refusals import TooLittleRoom

TOO_LITTLE_ROOM = -1
OUT_OF_RANGE = -2
NO_SUCH_FILE = -3
TOO_LARGE = -4
GREATEST_MOST = 4194304


def look(most, data):
    try:
        head = read_contents(data).head
    except NoSuchFile:
        return [NO_SUCH_FILE]
    except TooLarge:
        return [TOO_LARGE]
    return [0, head.width, head.height]


def read(most, data):
    try:
        octets = read_octets(most, data)
    except OutOfRange:
        return [OUT_OF_RANGE]
    except NoSuchFile:
        return [NO_SUCH_FILE]
    except TooLarge:
        return [TOO_LARGE]
    except TooLittleRoom:
        return [TOO_LITTLE_ROOM]
    return [len(octets)] + octets


def read_octets(most, data):
    if most < 0 or most > GREATEST_MOST:
        raise OutOfRange()
    contents = read_contents(data)
    if most < contents.head.octets_in_all():
        raise TooLittleRoom()
    colours = contents.transforms.undone(contents.colours)
    return octets_of(colours, contents.head.alphas_count)


def octets_of(colours, alphas_count):
    octets = []
    for colour in colours:
        alpha = colour >> 24 if alphas_count else 255
        octets.extend((colour >> 16 & 255, colour >> 8 & 255, colour & 255, alpha))
    return octets
