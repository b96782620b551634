"""The board's squares: a list row by row, and how each square folds what is laid on it."""

SIZE = 15
MIDDLE = 7
EMPTY = 46

# By how far a square is from the middle across and down, the lesser first.
WORD_FOLDS = {(0, 7): 3, (7, 7): 3, (0, 0): 2, (3, 3): 2, (4, 4): 2, (5, 5): 2, (6, 6): 2}
LETTER_FOLDS = {(2, 2): 3, (2, 6): 3, (1, 1): 2, (0, 4): 2, (1, 5): 2, (4, 7): 2}


def empty_squares():
    return [EMPTY] * (SIZE * SIZE)


def all_empty(squares):
    return all([letter == EMPTY for letter in squares])


def on_board(x, y):
    return 0 <= x < SIZE and 0 <= y < SIZE


def letter_at(squares, x, y):
    # Beyond the edge counts as empty: a run of letters ends there, and nothing lies right before or behind.
    return squares[y * SIZE + x] if on_board(x, y) else EMPTY


def put_letter(squares, x, y, letter):
    squares[y * SIZE + x] = letter


def letters_from(squares, x, y, step_x, step_y):
    """The letters from x, y on, step by step, up to the first empty square."""
    letters = []
    while letter_at(squares, x, y) != EMPTY:
        letters.append(letter_at(squares, x, y))
        x = x + step_x
        y = y + step_y
    return letters


def from_middle(x, y):
    return tuple(sorted([abs(x - MIDDLE), abs(y - MIDDLE)]))


def word_fold(x, y):
    return WORD_FOLDS.get(from_middle(x, y), 1)


def letter_fold(x, y):
    return LETTER_FOLDS.get(from_middle(x, y), 1)
