"""The board's squares as a word meets them that goes over them: their letters, what crosses, how they fold."""

from wordboard.letters import points_of_all
from wordboard.squares import EMPTY, letter_at, letter_fold, letters_from, word_fold


class Spot:
    """One square under a word that goes across (down is 0) or down (1).

    before and behind are the letters that a letter laid here would be in one run with, the other way.
    """

    def __init__(self, squares, x, y, down):
        step_x = down
        step_y = 1 - down
        self.letter = letter_at(squares, x, y)
        self.is_empty = self.letter == EMPTY
        self.before = list(reversed(letters_from(squares, x - step_x, y - step_y, -step_x, -step_y)))
        self.behind = letters_from(squares, x + step_x, y + step_y, step_x, step_y)
        self.is_crossed = self.before != [] or self.behind != []
        self.crossing_points = points_of_all(self.before) + points_of_all(self.behind)
        self.letter_fold = letter_fold(x, y)
        self.word_fold = word_fold(x, y)

    def crossing_with(self, letter):
        """The crossing word of this letter, if it is laid here; empty if it would be alone in it."""
        return self.before + [letter] + self.behind if self.is_crossed else []


def spots_from(squares, x, y, down, length):
    """As many spots from x, y on, across or down."""
    return [Spot(squares, x + step * (1 - down), y + step * down, down) for step in range(length)]
