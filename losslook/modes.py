"""The modes: what each foretells from the colours around an element."""

from losslook.parts import BLACK
from losslook.parts import brought_in
from losslook.parts import difference
from losslook.parts import half_sum

SHIFTS = (24, 16, 8, 0)


def mode_0(left, top, top_right, top_left):
    return BLACK


def mode_1(left, top, top_right, top_left):
    return left


def mode_2(left, top, top_right, top_left):
    return top


def mode_3(left, top, top_right, top_left):
    return top_right


def mode_4(left, top, top_right, top_left):
    return top_left


def mode_5(left, top, top_right, top_left):
    return half_sum(half_sum(left, top_right), top)


def mode_6(left, top, top_right, top_left):
    return half_sum(left, top_left)


def mode_7(left, top, top_right, top_left):
    return half_sum(left, top)


def mode_8(left, top, top_right, top_left):
    return half_sum(top_left, top)


def mode_9(left, top, top_right, top_left):
    return half_sum(top, top_right)


def mode_10(left, top, top_right, top_left):
    return half_sum(half_sum(left, top_left), half_sum(top, top_right))


def mode_11(left, top, top_right, top_left):
    return left if difference(top, top_left) < difference(left, top_left) else top


def mode_12(left, top, top_right, top_left):
    colour = 0
    for shift in SHIFTS:
        part = (left >> shift & 255) + (top >> shift & 255) - (top_left >> shift & 255)
        colour |= brought_in(part) << shift
    return colour


def mode_13(left, top, top_right, top_left):
    middle = half_sum(left, top)
    colour = 0
    for shift in SHIFTS:
        part = middle >> shift & 255
        colour |= brought_in(part + halved_toward_zero(part - (top_left >> shift & 255))) << shift
    return colour


def halved_toward_zero(number):
    # // goes down, which is away from zero below it.
    return number // 2 if number >= 0 else -(-number // 2)


MODES = (
    mode_0, mode_1, mode_2, mode_3, mode_4, mode_5, mode_6, mode_7, mode_8, mode_9, mode_10, mode_11, mode_12, mode_13,
)
