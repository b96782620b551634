"""One game: the words that there are, the board, and the calls on them."""

from wordboard.counting import count_of_word
from wordboard.laying import crossing_words, fits, is_from_rack, is_proper, spots_under, touches
from wordboard.letters import MOST_LETTERS, all_letters, is_rack, without_case
from wordboard.search import best_laying
from wordboard.squares import empty_squares, put_letter

MOST_WORDS = 4096


class Game:
    """words has each word in capitals, as a tuple of bytes; squares has the board row by row."""

    def __init__(self):
        self.words = {}
        self.squares = empty_squares()

    def start_over(self):
        self.words = {}
        self.squares = empty_squares()
        return 0

    def take_word(self, word):
        if not 2 <= len(word) <= MOST_LETTERS or not all_letters(word):
            return -1
        if self.has_word(word):
            return 0
        if len(self.words) >= MOST_WORDS:
            return -2
        self.words[without_case(word)] = True
        return 1

    def has_word(self, word):
        return without_case(word) in self.words

    def has_all_words(self, laying):
        made = [laying.word] + crossing_words(self.squares, laying)
        return all([self.has_word(word) for word in made])

    def score(self, laying):
        if not is_proper(laying):
            return -1
        if not fits(self.squares, laying):
            return -2
        if not is_from_rack(self.squares, laying):
            return -3
        if not touches(self.squares, laying):
            return -4
        if not self.has_all_words(laying):
            return -5
        return count_of_word(spots_under(self.squares, laying), laying.word)

    def play(self, laying):
        count = self.score(laying)
        if count >= 0:
            self.lay(laying)
        return count

    def lay(self, laying):
        for place, letter in enumerate(laying.word):
            put_letter(self.squares, laying.x_of(place), laying.y_of(place), letter)

    def best_told(self, rack):
        """The numbers that best is answered with."""
        if not is_rack(rack):
            return [-1]
        best = best_laying(self.squares, self.words, rack)
        if best is None:
            return [-6]
        length = len(best.word)
        return [self.score(best), best.x, best.y, best.down, length] + best.word + [0] * (MOST_LETTERS - length)

    def board_told(self):
        return [0] + self.squares
