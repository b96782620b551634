"""Which letters of a word are to be blanks, so that it counts the most."""

from wordboard.counting import fold_by_spots
from wordboard.letters import BLANK, small_of


def weight_of(spot, fold):
    """How many times a letter laid here is counted, in its word and its crossing word together."""
    crossing_fold = spot.word_fold if spot.is_crossed else 0
    return spot.letter_fold * (fold + crossing_fold)


def weightiest_first(spots):
    """The places that are laid on; of those that weigh as much the first ones first."""
    fold = fold_by_spots(spots)
    laid = [place for place, spot in enumerate(spots) if spot.is_empty]
    return sorted(laid, key=lambda place: -weight_of(spots[place], fold))


def told_from_rack(spots, word, rack):
    """The word, in capitals, as it is best told: letters on the board as they are, blanks small.

    A letter that the rack has counts more than a blank, so no blank stands for it while the rack has it.
    Where it has too few of a letter, the blanks go where that letter is counted the fewest times. Of places
    that weigh as much the last are the blanks, since a capital's byte comes before a small letter's.
    """
    told = [letter if spot.is_empty else spot.letter for spot, letter in zip(spots, word)]
    if BLANK not in rack:
        return told
    left = list(rack)
    for place in weightiest_first(spots):
        if told[place] in left:
            left.remove(told[place])
        else:
            told[place] = small_of(told[place])
    return told
