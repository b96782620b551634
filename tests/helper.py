"""Calls written as texts, games with letters on the board already, and a picture of how squares fold."""

from wordboard.board import answers
from wordboard.game import Game
from wordboard.laying import Laying


# One quarter of the board and its middle lines; T, D fold words, t, d letters.
QUARTER = (
    "T..d...T",
    ".D...t..",
    "..D...d.",
    "d..D...d",
    "....D...",
    ".t...t..",
    "..d...d.",
    "T..d...D",
)
WORD_FOLD = {"T": 3, "D": 2}
LETTER_FOLD = {"t": 3, "d": 2}


def fold_sign(x, y):
    return QUARTER[min(y, 14 - y)][min(x, 14 - x)]


def as_bytes(text):
    """A text as a list of bytes; a list stays what it is."""
    return [ord(sign) for sign in text] if isinstance(text, str) else list(text)


def row(text):
    numbers = as_bytes(text)
    return [len(numbers)] + numbers


def clear():
    return [1]


def word(text):
    return [2] + row(text)


def score(x, y, down, text, rack):
    return [3, x, y, down] + row(text) + row(rack)


def play(x, y, down, text, rack):
    return [4, x, y, down] + row(text) + row(rack)


def best(rack):
    return [5] + row(rack)


def board():
    return [6]


def split(given):
    """The list that is given back, as one list of numbers for each call."""
    parts = []
    at = 0
    while at < len(given):
        parts.append(given[at + 1:at + 1 + given[at]])
        at += 1 + given[at]
    return parts


def ask_parts(*calls):
    """What each call is answered, behind a clear, as one list of numbers for each."""
    numbers = clear()
    for call in calls:
        numbers = numbers + call
    return split(answers(numbers))[1:]


def ask(*calls):
    """What each call is answered, behind a clear; each is one number."""
    parts = ask_parts(*calls)
    assert all(len(part) == 1 for part in parts), parts
    return [part[0] for part in parts]


def told_best(count, x, y, down, text):
    """What best is answered, written out."""
    return [count, x, y, down, len(text)] + as_bytes(text) + [0] * (15 - len(text))


def told_board(*laid):
    """What board is answered with letters laid: each as x, y, down, text."""
    return [0] + game_with("", *laid).squares


def score_first(words, x, y, down, text, rack):
    """What a score is answered on an empty board, where these words are."""
    return ask(*[word(known) for known in words.split()], score(x, y, down, text, rack))[-1]


def put(game, x, y, down, text):
    for k, byte in enumerate(as_bytes(text)):
        game.squares[(y + k * down) * 15 + x + k * (1 - down)] = byte


def game_with(words, *laid):
    """A game with these words, and with letters laid on the board: each as x, y, down, text."""
    game = Game()
    for known in words.split():
        game.take_word(as_bytes(known))
    for x, y, down, text in laid:
        put(game, x, y, down, text)
    return game


def score_on(game, x, y, down, text, rack):
    return game.score(Laying(x, y, down, as_bytes(text), as_bytes(rack)))


def best_on(game, rack):
    return game.best_told(as_bytes(rack))
