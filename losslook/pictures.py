"""What is asked of a file: look."""

from losslook.bits import Bits
from losslook.coded import read_grouped_picture
from losslook.container import bytes_of_bits
from losslook.refusals import NoSuchFile
from losslook.refusals import TooLarge
from losslook.transforms import read_transforms

NO_SUCH_FILE = -3
TOO_LARGE = -4
LARGEST = 1048576


def look(most, data):
    try:
        return [0] + looked_at(data)
    except NoSuchFile:
        return [NO_SUCH_FILE]
    except TooLarge:
        return [TOO_LARGE]


def looked_at(data):
    bits = Bits(bytes_of_bits(data))
    size = read_head(bits)
    coded_width = read_transforms(bits, size[0], size[1])
    read_grouped_picture(bits, coded_width, size[1])
    if bits.left() >= 8:
        raise NoSuchFile()
    return size


def read_head(bits):
    width = bits.number(14) + 1
    height = bits.number(14) + 1
    # Whether alphas count makes no difference to what is asked here.
    bits.bit()
    if bits.number(3) != 0:
        raise NoSuchFile()
    if width * height > LARGEST:
        raise TooLarge()
    return [width, height]
