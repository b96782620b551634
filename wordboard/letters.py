"""Bytes as letters: which there are, what each counts, and which a rack may have."""

BLANK = 63
CAPITAL_A = 65
CAPITAL_Z = 90
SMALL_A = 97
SMALL_Z = 122
CASE_STEP = 32

MOST_LETTERS = 15
MOST_ON_RACK = 7

# From A to Z.
POINTS = (1, 3, 3, 2, 1, 4, 2, 4, 1, 8, 5, 1, 3, 1, 1, 3, 10, 1, 1, 1, 1, 4, 4, 8, 4, 10)


def is_capital(byte):
    return CAPITAL_A <= byte <= CAPITAL_Z


def is_small(byte):
    return SMALL_A <= byte <= SMALL_Z


def all_letters(word):
    return all([is_capital(byte) or is_small(byte) for byte in word])


def is_rack(rack):
    if len(rack) > MOST_ON_RACK:
        return False
    return all([is_capital(byte) or byte == BLANK for byte in rack])


def capital_of(letter):
    return letter - CASE_STEP if is_small(letter) else letter


def small_of(capital):
    return capital + CASE_STEP


def without_case(word):
    """The word as a tuple of capitals, so that it can be a key."""
    return tuple([capital_of(letter) for letter in word])


def taken_from_rack(letter):
    """What a rack must have for this letter to be laid."""
    return BLANK if is_small(letter) else letter


def points_of(letter):
    # A small letter is a blank wherever it stands, on the board too.
    return 0 if is_small(letter) else POINTS[letter - CAPITAL_A]


def points_of_all(letters):
    return sum([points_of(letter) for letter in letters])
