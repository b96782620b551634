"""What a laid word counts, with its crossing words, on the spots under it: one for each of its letters."""

from wordboard.letters import MOST_ON_RACK, points_of

ALL_LAID_BONUS = 50


def fold_by_spots(spots):
    """How many times the word is counted: only squares that are laid on now fold."""
    fold = 1
    for spot in spots:
        if spot.is_empty:
            fold = fold * spot.word_fold
    return fold


def bonus_for(spots):
    laid = len([spot for spot in spots if spot.is_empty])
    return ALL_LAID_BONUS if laid == MOST_ON_RACK else 0


def count_of_word(spots, word):
    total = 0
    crossings = 0
    for spot, letter in zip(spots, word):
        points = points_of(letter)
        if spot.is_empty:
            points = points * spot.letter_fold
            if spot.is_crossed:
                crossings = crossings + (spot.crossing_points + points) * spot.word_fold
        total = total + points
    return total * fold_by_spots(spots) + crossings + bonus_for(spots)
