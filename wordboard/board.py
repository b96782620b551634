"""The way in: a list of calls is read, and each call answered in turn."""

from wordboard.game import Game
from wordboard.laying import Laying

CLEAR = 1
WORD = 2
SCORE = 3
PLAY = 4
BEST = 5


class Reader:
    """Goes once through a list of calls, which it leaves as it is."""

    def __init__(self, calls):
        self.calls = calls
        self.position = 0

    def has_more(self):
        return self.position < len(self.calls)

    def read_number(self):
        number = self.calls[self.position]
        self.position = self.position + 1
        return number

    def read_row(self):
        length = self.read_number()
        row = self.calls[self.position:self.position + length]
        self.position = self.position + length
        return row

    def read_laying(self):
        x = self.read_number()
        y = self.read_number()
        down = self.read_number()
        word = self.read_row()
        rack = self.read_row()
        return Laying(x, y, down, word, rack)


def answer_next(game, reader):
    """The numbers that the next call is answered with."""
    call = reader.read_number()
    if call == CLEAR:
        return [game.start_over()]
    if call == WORD:
        return [game.take_word(reader.read_row())]
    if call == SCORE:
        return [game.score(reader.read_laying())]
    if call == PLAY:
        return [game.play(reader.read_laying())]
    if call == BEST:
        return game.best_told(reader.read_row())
    # Nothing but board, 6, is left.
    return game.board_told()


def answers(calls):
    reader = Reader(calls)
    game = Game()
    answered = []
    while reader.has_more():
        answer = answer_next(game, reader)
        answered.append(len(answer))
        answered.extend(answer)
    return answered
