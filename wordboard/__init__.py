"""A game of words on a board: wordboard.board.answers is the way in."""
