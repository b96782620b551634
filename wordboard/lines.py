"""The rows and columns of the board, along which words are laid."""

from wordboard.spots import spots_from
from wordboard.squares import MIDDLE, SIZE, all_empty


class Line:
    """A row (down is 0) or a column (1); number is its y or its x. A word touches if it covers a touching place."""

    def __init__(self, squares, number, down):
        self.number = number
        self.down = down
        self.spots = spots_from(squares, number * down, number * (1 - down), down, SIZE)
        self.touching = self.touching_places(all_empty(squares))

    def touching_places(self, is_first):
        if is_first:
            return [MIDDLE] if self.number == MIDDLE else []
        return [place for place, spot in enumerate(self.spots) if not spot.is_empty or spot.is_crossed]

    def next_touching(self, start):
        """The first touching place from this one on, or None."""
        return min([place for place in self.touching if place >= start], default=None)

    def is_free(self, place):
        """Whether no letter lies there; beyond the edges none does."""
        return not 0 <= place < SIZE or self.spots[place].is_empty

    def x_of(self, place):
        return self.number if self.down == 1 else place

    def y_of(self, place):
        return place if self.down == 1 else self.number


def all_lines(squares):
    rows = [Line(squares, number, 0) for number in range(SIZE)]
    columns = [Line(squares, number, 1) for number in range(SIZE)]
    return rows + columns
