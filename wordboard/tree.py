"""The words as a tree, in which words that begin alike share their beginning."""


class Branch:
    """Where a beginning goes on: a branch for each next letter; word is the word that ends here, or None."""

    def __init__(self):
        self.nexts = {}
        self.word = None


def branch_behind(branch, letter):
    if letter not in branch.nexts:
        branch.nexts[letter] = Branch()
    return branch.nexts[letter]


def tree_of(words):
    root = Branch()
    for word in words:
        branch = root
        for letter in word:
            branch = branch_behind(branch, letter)
        branch.word = word
    return root
