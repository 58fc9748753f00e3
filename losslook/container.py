"""The file's frame: what lies around the bits."""

from losslook.refusals import NoSuchFile

SIGNATURE = 47


def letters_stand(data, place, letters):
    return data[place:place + len(letters)] == [ord(letter) for letter in letters]


def size_at(data, place):
    return data[place] | data[place + 1] << 8 | data[place + 2] << 16 | data[place + 3] << 24


def names_stand(data):
    return letters_stand(data, 0, "RIFF") and letters_stand(data, 8, "WEBPVP8L")


def bytes_of_bits(data):
    # 21 bytes reach to the signature: shorter data has no sizes to look at.
    if len(data) < 21 or not names_stand(data):
        raise NoSuchFile()
    size = size_at(data, 16)
    padding = size % 2
    if size_at(data, 4) != 12 + size + padding or len(data) != 20 + size + padding:
        raise NoSuchFile()
    if data[20] != SIGNATURE:
        raise NoSuchFile()
    if padding == 1 and data[20 + size] != 0:
        raise NoSuchFile()
    return data[21:20 + size]
