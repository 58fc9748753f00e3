"""Predictions, and how they are undone."""

from losslook.modes import MODES
from losslook.parts import BLACK
from losslook.parts import added


class Predictions:
    # Each square's green is its mode.
    def __init__(self, width, squares):
        self.width = width
        self.squares = squares

    def undone(self, colours):
        width = self.width
        done = [added(colours[0], BLACK)]
        for place in range(1, width):
            done.append(added(colours[place], done[place - 1]))
        for y in range(1, len(colours) // width):
            self.undo_row(colours, done, y)
        return done

    def undo_row(self, colours, done, y):
        begin = y * self.width
        above = begin - self.width
        top = done[above]
        left = added(colours[begin], top)
        done.append(left)
        top_right = done[above + 1]
        for x in range(1, self.width):
            top_left = top
            top = top_right
            # Behind the last of the row above comes the row's own first, as it is wanted there.
            top_right = done[above + x + 1]
            mode = self.squares.colour_at(x, y) >> 8 & 255
            left = added(colours[begin + x], MODES[mode](left, top, top_right, top_left))
            done.append(left)
