"""Calls written as texts, and games with letters on the board already."""

from wordboard.board import answers
from wordboard.game import Game
from wordboard.laying import Laying


def as_bytes(text):
    """A text as a list of bytes; a list stays what it is."""
    return [ord(sign) for sign in text] if isinstance(text, str) else list(text)


def row(text):
    numbers = as_bytes(text)
    return [len(numbers)] + numbers


def clear():
    return [1]


def word(text):
    return [2] + row(text)


def score(x, y, down, text, rack):
    return [3, x, y, down] + row(text) + row(rack)


def split(given):
    """The list that is given back, as one list of numbers for each call."""
    parts = []
    at = 0
    while at < len(given):
        parts.append(given[at + 1:at + 1 + given[at]])
        at += 1 + given[at]
    return parts


def ask(*calls):
    """What each call is answered, behind a clear; each is one number."""
    numbers = clear()
    for call in calls:
        numbers = numbers + call
    parts = split(answers(numbers))
    assert all(len(part) == 1 for part in parts), parts
    return [part[0] for part in parts][1:]


def score_first(words, x, y, down, text, rack):
    """What a score is answered on an empty board, where these words are."""
    return ask(*[word(known) for known in words.split()], score(x, y, down, text, rack))[-1]


def put(game, x, y, down, text):
    for k, byte in enumerate(as_bytes(text)):
        game.squares[(y + k * down) * 15 + x + k * (1 - down)] = byte


def game_with(words, *laid):
    """A game with these words, and with letters laid on the board: each as x, y, down, text."""
    game = Game()
    for known in words.split():
        game.take_word(as_bytes(known))
    for x, y, down, text in laid:
        put(game, x, y, down, text)
    return game


def score_on(game, x, y, down, text, rack):
    return game.score(Laying(x, y, down, as_bytes(text), as_bytes(rack)))
