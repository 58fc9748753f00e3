"""What a file holds: its head, its transforms and its coded picture, read strictly to the last bit."""

from losslook.bits import Bits
from losslook.coded import read_grouped_picture
from losslook.container import bytes_of_bits
from losslook.refusals import NoSuchFile
from losslook.refusals import TooLarge
from losslook.transforms import read_transforms

LARGEST = 1048576


class Head:
    def __init__(self, width, height, alphas_count):
        self.width = width
        self.height = height
        self.alphas_count = alphas_count

    def octets_in_all(self):
        return 4 * self.width * self.height


class Contents:
    # colours are the coded ones: the transforms are not undone yet.
    def __init__(self, head, transforms, colours):
        self.head = head
        self.transforms = transforms
        self.colours = colours


def read_contents(data):
    bits = Bits(bytes_of_bits(data))
    head = read_head(bits)
    transforms = read_transforms(bits, head.width, head.height)
    colours = read_grouped_picture(bits, transforms.width, head.height)
    if bits.left() >= 8:
        raise NoSuchFile()
    return Contents(head, transforms, colours)


def read_head(bits):
    width = bits.number(14) + 1
    height = bits.number(14) + 1
    alphas_count = bits.bit() == 1
    if bits.number(3) != 0:
        raise NoSuchFile()
    if width * height > LARGEST:
        raise TooLarge()
    return Head(width, height, alphas_count)
