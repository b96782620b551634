"""What a laid word counts, with its crossing words."""

from wordboard.laying import crossing_word, laid_places
from wordboard.letters import MOST_ON_RACK, points_of
from wordboard.squares import letter_fold, word_fold

ALL_LAID_BONUS = 50


def points_of_all(letters):
    return sum([points_of(letter) for letter in letters])


def fold_of_word(laying, place):
    return word_fold(laying.x_of(place), laying.y_of(place))


def gain_by_fold(laying, place):
    """What the square under a laid letter adds to that letter's own points."""
    fold = letter_fold(laying.x_of(place), laying.y_of(place))
    return (fold - 1) * points_of(laying.word[place])


def count_of_word(laying, places):
    total = points_of_all(laying.word)
    fold = 1
    for place in places:
        total = total + gain_by_fold(laying, place)
        fold = fold * fold_of_word(laying, place)
    return total * fold


def count_of_crossing(squares, laying, place):
    crossing = crossing_word(squares, laying, place)
    if crossing == []:
        return 0
    return (points_of_all(crossing) + gain_by_fold(laying, place)) * fold_of_word(laying, place)


def count_of_laying(squares, laying):
    places = laid_places(squares, laying)
    total = count_of_word(laying, places)
    total = total + sum([count_of_crossing(squares, laying, place) for place in places])
    if len(places) == MOST_ON_RACK:
        total = total + ALL_LAID_BONUS
    return total
