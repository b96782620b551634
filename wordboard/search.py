"""The best that can be laid from a rack.

From each square on, across and down, the words are followed letter by letter, all at once. A way is a beginning
of words that can be laid so far: its branch of the tree, and what is left of the rack.
"""

from wordboard.blanks import told_from_rack
from wordboard.counting import count_of_word
from wordboard.laying import Laying
from wordboard.letters import BLANK, CAPITAL_A, CAPITAL_Z, capital_of, without_case
from wordboard.lines import all_lines
from wordboard.squares import SIZE
from wordboard.tree import tree_of


def layable_letters(rack):
    """The letters that the rack can lay one of, in capitals."""
    return [letter for letter in range(CAPITAL_A, CAPITAL_Z + 1) if letter in rack or BLANK in rack]


def rack_without(rack, letter):
    """What is left when this letter is laid, by a blank only if it must be; None if it can't be laid."""
    taken = letter if letter in rack else BLANK
    if taken not in rack:
        return None
    place = rack.index(taken)
    return rack[:place] + rack[place + 1:]


def ways_over_letter(ways, letter):
    return [(branch.nexts[letter], rack) for branch, rack in ways if letter in branch.nexts]


def ways_by_laying(ways, letters):
    onward = []
    for branch, rack in ways:
        for letter, after in branch.nexts.items():
            left = rack_without(rack, letter) if letter in letters else None
            if left is not None:
                onward.append((after, left))
    return onward


def ways_over(ways, spot, letters):
    if spot.is_empty:
        return ways_by_laying(ways, letters)
    return ways_over_letter(ways, capital_of(spot.letter))


class Search:
    """What can be laid with these words from this rack."""

    def __init__(self, words, rack):
        self.words = words
        self.rack = rack
        self.tree = tree_of(words)
        self.layable = layable_letters(rack)

    def letters_for(self, spot):
        """What may be laid on a spot: the crossing word, if there is one, has to be one that there is."""
        if not spot.is_empty:
            return []
        if not spot.is_crossed:
            return self.layable
        return [letter for letter in self.layable if without_case(spot.crossing_with(letter)) in self.words]

    def words_ending(self, ways):
        """The words that end where the ways are; where the whole rack is left, nothing was laid."""
        ended = [branch.word for branch, rack in ways if len(rack) < len(self.rack)]
        return [word for word in ended if word is not None]

    def words_from(self, line, letters, start):
        """The words that can be laid along a line from this place on; letters has what may be laid on each spot."""
        touching = line.next_touching(start)
        if touching is None or touching - start > len(self.rack):
            return []
        found = []
        ways = [(self.tree, self.rack)]
        for place in range(start, SIZE):
            ways = ways_over(ways, line.spots[place], letters[place])
            if ways == []:
                break
            if place >= touching and line.is_free(place + 1):
                found.extend(self.words_ending(ways))
        return found

    def rank_of(self, line, start, word):
        """Of two layings the better has the lesser rank."""
        spots = line.spots[start:start + len(word)]
        told = told_from_rack(spots, word, self.rack)
        return (-count_of_word(spots, told), line.down, line.y_of(start), line.x_of(start), told)

    def ranks_along(self, line):
        if line.touching == []:
            return []
        letters = [self.letters_for(spot) for spot in line.spots]
        ranks = []
        for start in range(SIZE):
            if line.is_free(start - 1):
                words = self.words_from(line, letters, start)
                ranks.extend([self.rank_of(line, start, word) for word in words])
        return ranks


def best_laying(squares, words, rack):
    """The best, told as a laying; None if nothing can be laid."""
    search = Search(words, rack)
    ranks = []
    for line in all_lines(squares):
        ranks.extend(search.ranks_along(line))
    if ranks == []:
        return None
    best = min(ranks)
    return Laying(best[3], best[2], best[1], best[4], rack)
