"""Whole lines of calls compared with the plain game: all six calls, and best with a search over all layings.

The plain game is the game once more, written after the document's words alone and without regard to speed.
"""

import itertools
import random
import unittest

import helper
from helper import LETTER_FOLD, WORD_FOLD, fold_sign
from wordboard.board import answers

POINTS = {letter: points for points, letters in {1: "AEILNORSTU", 2: "DG", 3: "BCMP", 4: "FHVWY", 5: "K", 8: "JX",
                                                 10: "QZ"}.items() for letter in letters}
COMMON = "EEEEAAAIIOOONNRRTTLSSUDGBCMPFHVWYKJXQZ"
WORDS = """
    ABLE ACE AGE AID AIR ALE ANT APE ARE ART ATE BAD BAR BEAR BED BIT BONE CARE CAT CATS COAT DEAR DEN DINE DOG
    EAR EAT EGO END ERA EVE FAT FOE GEAR GET GOAT HAT HEAT HEN ICE INN ION IRE JET KEEN KIT LANE LATE LEAN LET LIE
    LINE LION MEAT NEAR NEAT NET NINE NOT NOTE OAR OAT ODE OIL ONE ORE OWE PEA PIE QUIT RAIN RAT RATE REAL RED
    RETINA ROAD SANE SEA SEAT SENT SIT SON SORE STAR TAR TEA TEAR TEN TIE TIN TOE TONE TORE TREE TUNE URN USE VAN
    WAR WET YES ZOO AT AN AS IN IT ON OR TO NO SO ER RE EN NE TA AE ES ET IS LA OE TI OS DE ED NASTIER RETAINS
    STAINER TRAINEE SENORITA
""".split()


class PlainGame:
    """Letters are signs here: words a set of texts in capitals, board a dict from (x, y) to a letter."""

    def __init__(self):
        self.words = set()
        self.board = {}

    def add_word(self, word):
        if not 2 <= len(word) <= 15 or not (word.isascii() and word.isalpha()):
            return -1
        if word.upper() in self.words:
            return 0
        self.words.add(word.upper())
        return 1

    def squares(self, x, y, down, n):
        return [(x, y + k) if down else (x + k, y) for k in range(n)]

    def fits(self, x, y, down, word):
        n = len(word)
        under = self.squares(x, y, down, n)
        if n < 2 or max(under[-1]) > 14:
            return False
        before = (x, y - 1) if down else (x - 1, y)
        behind = (x, y + n) if down else (x + n, y)
        if before in self.board or behind in self.board:
            return False
        if any(self.board.get(square, letter) != letter for square, letter in zip(under, word)):
            return False
        return any(square not in self.board for square in under)

    def laid(self, x, y, down, word):
        """The squares that it lays on, each with its letter."""
        under = zip(self.squares(x, y, down, len(word)), word)
        return [(square, letter) for square, letter in under if square not in self.board]

    def from_rack(self, laid, rack):
        needed = ["?" if letter.islower() else letter for square, letter in laid]
        return all(needed.count(sign) <= rack.count(sign) for sign in needed)

    def crossing(self, square, letter, down):
        """The squares of the run the other way through a letter that is laid on this square, each with its letter."""
        after = dict(self.board)
        after[square] = letter
        x, y = square
        step_x, step_y = (1, 0) if down else (0, 1)
        while (x - step_x, y - step_y) in after:
            x, y = x - step_x, y - step_y
        run = []
        while (x, y) in after:
            run.append(((x, y), after[x, y]))
            x, y = x + step_x, y + step_y
        return run if len(run) > 1 else []

    def crossings(self, laid, down):
        runs = [self.crossing(square, letter, down) for square, letter in laid]
        return [run for run in runs if run]

    def count(self, run):
        total = 0
        fold = 1
        for square, letter in run:
            sign = "." if square in self.board else fold_sign(*square)
            total += POINTS.get(letter, 0) * LETTER_FOLD.get(sign, 1)
            fold *= WORD_FOLD.get(sign, 1)
        return total * fold

    def score(self, x, y, down, word, rack):
        if not (0 <= x <= 14 and 0 <= y <= 14 and down in (0, 1) and 1 <= len(word) <= 15 and len(rack) <= 7):
            return -1
        if not all(sign in "ABCDEFGHIJKLMNOPQRSTUVWXYZ?" for sign in rack):
            return -1
        if not (word.isascii() and word.isalpha()):
            return -1
        if not self.fits(x, y, down, word):
            return -2
        laid = self.laid(x, y, down, word)
        if not self.from_rack(laid, rack):
            return -3
        crossings = self.crossings(laid, down)
        if not self.board and (7, 7) not in self.squares(x, y, down, len(word)):
            return -4
        if self.board and len(laid) == len(word) and not crossings:
            return -4
        made = [word] + ["".join(letter for square, letter in run) for run in crossings]
        if not all(text.upper() in self.words for text in made):
            return -5
        whole = list(zip(self.squares(x, y, down, len(word)), word))
        return sum(self.count(run) for run in [whole] + crossings) + (50 if len(laid) == 7 else 0)

    def play(self, x, y, down, word, rack):
        count = self.score(x, y, down, word, rack)
        if count >= 0:
            self.board.update(self.laid(x, y, down, word))
        return count

    def tellings(self, x, y, down, word, rack):
        """The word with each of its letters capital or small, where the board and the rack don't rule it out."""
        choices = []
        for square, letter in zip(self.squares(x, y, down, len(word)), word):
            there = self.board.get(square)
            if there is None:
                choices.append(letter * (letter in rack) + letter.lower() * ("?" in rack))
            else:
                choices.append(there if there.upper() == letter else "")
            if not choices[-1]:
                return []
        return ["".join(signs) for signs in itertools.product(*choices)]

    def layings(self, rack):
        """All that can be laid: what it counts, x, y, down and the word."""
        found = []
        for down, y, x, word in itertools.product((0, 1), range(15), range(15), sorted(self.words)):
            if (y if down else x) + len(word) <= 15:
                for told in self.tellings(x, y, down, word, rack):
                    count = self.score(x, y, down, told, rack)
                    if count >= 0:
                        found.append((count, x, y, down, told))
        return found

    def best(self, rack):
        """-1, -6, or what it counts, x, y, down and the word."""
        if len(rack) > 7 or not all(sign in "ABCDEFGHIJKLMNOPQRSTUVWXYZ?" for sign in rack):
            return -1
        found = self.layings(rack)
        if not found:
            return -6
        return min(found, key=lambda way: (-way[0], way[3], way[2], way[1], [ord(sign) for sign in way[4]]))


def board_numbers(game):
    letters = [game.board.get((x, y), ".") for y in range(15) for x in range(15)]
    return [0] + [ord(letter) for letter in letters]


class Line:
    """A line of calls that grows, with what the plain game answers to each."""

    def __init__(self):
        self.calls = helper.clear()
        self.expected = [[0]]
        self.game = PlainGame()

    def put(self, call, answer):
        self.calls += call
        self.expected.append(answer)

    def clear(self):
        self.game = PlainGame()
        self.put(helper.clear(), [0])

    def word(self, text):
        self.put(helper.word(text), [self.game.add_word(text)])

    def score(self, *laying):
        self.put(helper.score(*laying), [self.game.score(*laying)])

    def play(self, *laying):
        self.put(helper.play(*laying), [self.game.play(*laying)])

    def board(self):
        self.put(helper.board(), board_numbers(self.game))

    def best(self, rack):
        found = self.game.best(rack)
        self.put(helper.best(rack), [found] if isinstance(found, int) else helper.told_best(*found))
        return None if isinstance(found, int) else found[1:]


def some_text(source, letters, least, most):
    return "".join(source.choice(letters) for k in range(source.randint(least, most)))


def some_rack(source, letters, blanks):
    return some_text(source, letters, 0, 7 - blanks) + "?" * blanks


def some_case(source, text):
    return "".join(letter.lower() if source.randrange(6) == 0 else letter for letter in text)


def some_laying(source, line, letters):
    """Mostly close to right: a word that there is, often with all its letters on the rack."""
    known = sorted(line.game.words) or ["AB"]
    text = some_case(source, source.choice(known))
    rack = some_rack(source, letters, source.randrange(3))
    if source.randrange(2):
        rack = "".join("?" if letter.islower() else letter for letter in text)[-7:]
    return source.randint(-1, 15), source.randint(0, 14), source.randrange(2), text, rack


def grow(line, source, letters, how_many, most_blanks):
    """Bests, each often played then, and scores and plays of all sorts."""
    for k in range(how_many):
        rack = some_rack(source, letters, source.randint(0, most_blanks))
        way = line.best(rack)
        if way is not None and source.randrange(4):
            line.play(way[0], way[1], way[2], way[3], rack)
        else:
            line.play(*some_laying(source, line, letters))
        line.score(*some_laying(source, line, letters))
    line.board()


class AgainstPlain(unittest.TestCase):
    def compare(self, line):
        given = helper.split(answers(line.calls))
        self.assertEqual(len(given), len(line.expected))
        for place, part in enumerate(given):
            self.assertEqual(part, line.expected[place], (place, line.calls))

    def lines(self, seeds, letters, words, longest, how_many, most_blanks):
        for seed in seeds:
            source = random.Random(seed)
            line = Line()
            for k in range(words):
                line.word(some_text(source, letters, 2, longest))
            grow(line, source, letters, how_many, most_blanks)
            self.compare(line)

    def test_two_letters(self):
        self.lines(range(6), "AB", 8, 4, 6, 2)

    def test_two_letters_and_many_blanks(self):
        self.lines(range(100, 104), "AQ", 6, 4, 5, 7)

    def test_four_letters(self):
        self.lines(range(200, 205), "AEHZ", 12, 5, 6, 2)

    def test_many_letters(self):
        self.lines(range(300, 304), COMMON, 20, 5, 6, 2)

    def test_words_as_they_are_spoken(self):
        for seed in (400, 401):
            source = random.Random(seed)
            line = Line()
            for text in WORDS:
                line.word(text)
            grow(line, source, COMMON, 5, 1)
            self.compare(line)

    def test_seven_letters_or_more(self):
        for seed in (500, 501):
            source = random.Random(seed)
            line = Line()
            for text in ("NASTIER", "RETAINS", "SENORITA", "TRAINEE", "AT", "RE", "ES", "TA"):
                line.word(text)
            for rack in ("NASTIER", "RETAINS", "SENORTA", "TRAINEE", "STA?NER", "ERASTIN"):
                way = line.best(rack)
                if way is not None and source.randrange(3):
                    line.play(way[0], way[1], way[2], way[3], rack)
            line.board()
            self.compare(line)

    def test_four_hundred_calls(self):
        source = random.Random(600)
        line = Line()
        for half in range(2):
            for text in source.sample(WORDS, 90):
                line.word(some_case(source, text))
            grow(line, source, COMMON, 14, 0)
            if half == 0:
                line.clear()
                line.board()
                line.best("RETAINS")
        while len(line.expected) < 400:
            line.score(*some_laying(source, line, COMMON))
        self.assertEqual(len(line.expected), 400)
        self.compare(line)


if __name__ == "__main__":
    unittest.main()
