"""What may be laid: a word from a square on, judged against the squares as they are."""

from wordboard.letters import MOST_LETTERS, all_letters, is_rack, taken_from_rack
from wordboard.spots import Spot, spots_from
from wordboard.squares import EMPTY, MIDDLE, all_empty, letter_at, on_board


class Laying:
    """A word from square x, y on, across (down is 0) or down (1), and the rack it is to come from."""

    def __init__(self, x, y, down, word, rack):
        self.x = x
        self.y = y
        self.down = down
        self.word = word
        self.rack = rack

    def x_of(self, place):
        return self.x if self.down == 1 else self.x + place

    def y_of(self, place):
        return self.y + place if self.down == 1 else self.y


def is_proper(laying):
    if not on_board(laying.x, laying.y):
        return False
    if laying.down != 0 and laying.down != 1:
        return False
    if not 1 <= len(laying.word) <= MOST_LETTERS:
        return False
    return is_rack(laying.rack) and all_letters(laying.word)


def letter_under(squares, laying, place):
    return letter_at(squares, laying.x_of(place), laying.y_of(place))


def agrees(squares, laying, place):
    under = letter_under(squares, laying, place)
    return under == EMPTY or under == laying.word[place]


def laid_places(squares, laying):
    """The places in the word whose squares are empty: there it lays."""
    return [place for place in range(len(laying.word)) if letter_under(squares, laying, place) == EMPTY]


def fits(squares, laying):
    length = len(laying.word)
    if length < 2:
        return False
    if not on_board(laying.x_of(length - 1), laying.y_of(length - 1)):
        return False
    if letter_under(squares, laying, -1) != EMPTY or letter_under(squares, laying, length) != EMPTY:
        return False
    if not all([agrees(squares, laying, place) for place in range(length)]):
        return False
    return len(laid_places(squares, laying)) > 0


def is_from_rack(squares, laying):
    left = list(laying.rack)
    for place in laid_places(squares, laying):
        needed = taken_from_rack(laying.word[place])
        if needed not in left:
            return False
        left.remove(needed)
    return True


def spots_under(squares, laying):
    return spots_from(squares, laying.x, laying.y, laying.down, len(laying.word))


def crossing_word(squares, laying, place):
    """The run the other way through a letter that is laid; empty if that letter would be alone in it."""
    spot = Spot(squares, laying.x_of(place), laying.y_of(place), laying.down)
    return spot.crossing_with(laying.word[place])


def crossing_words(squares, laying):
    crossings = [crossing_word(squares, laying, place) for place in laid_places(squares, laying)]
    return [crossing for crossing in crossings if crossing != []]


def covers_middle(laying):
    for place in range(len(laying.word)):
        if laying.x_of(place) == MIDDLE and laying.y_of(place) == MIDDLE:
            return True
    return False


def touches(squares, laying):
    if all_empty(squares):
        return covers_middle(laying)
    if len(laid_places(squares, laying)) < len(laying.word):
        return True
    return crossing_words(squares, laying) != []
