"""Renamings: objects that lead each letter to a letter, and rename the labels of trees."""

from treewalks.errors import BadText, NoLabel, NoLetter, NotOneToOne
from treewalks.values import LETTERS, is_letter


def is_lead(word):
    """Tell whether the word is a letter, the sign > and a letter."""
    return len(word) == 3 and is_letter(word[0]) and word[1] == ">" and is_letter(word[2])


class Renaming:
    """Leads each letter to a letter."""

    def __init__(self, **letters):
        for letter in letters:
            if not is_letter(letter):
                raise NoLetter(letter)
        for target in letters.values():
            if not is_letter(target):
                raise NoLabel(target)
        # Only the letters that are changed, in ascending order: equal renamings hold equal dicts.
        self.leads = {letter: letters[letter] for letter in sorted(letters) if letters[letter] != letter}

    @classmethod
    def read(cls, text):
        """Return the renaming that the text describes."""
        if not isinstance(text, str):
            raise BadText(None)
        leads = {}
        words = text.split(" ") if text != "" else []
        for index, word in enumerate(words):
            if not is_lead(word) or word[0] in leads:
                raise BadText(index)
            leads[word[0]] = word[2]
        return cls(**leads)

    def __call__(self, tree, times=1):
        return self.renamed(tree, times)

    def renamed(self, tree, times):
        """Return the tree with all its labels renamed so many times."""
        if tree is None:
            return None
        left, label, right = tree
        return (self.renamed(left, times), self.letter_after(label, times), self.renamed(right, times))

    def letter_after(self, letter, times):
        """Return the letter to which the letter leads in so many steps."""
        # The letters on the way, up to the one that leads back into them: from there on
        # they go round, however many steps are left.
        way = [letter]
        while self[way[-1]] not in way:
            way.append(self[way[-1]])
        start = way.index(self[way[-1]])
        if times < start:
            return way[times]
        return way[start + (times - start) % (len(way) - start)]

    def __getitem__(self, at):
        if not is_letter(at):
            raise NoLetter(at)
        return self.leads.get(at, at)

    # Without it, Python would ask for the letters 0, 1 and so on.
    def __iter__(self):
        raise TypeError("a renaming is not iterated over")

    def __contains__(self, x):
        return is_letter(x) and x in self.leads

    def __add__(self, other):
        leads = {letter: other[self[letter]] for letter in LETTERS}
        return Renaming(**leads)

    def __neg__(self):
        targets = [self[letter] for letter in LETTERS]
        for letter in LETTERS:
            if targets.count(letter) > 1:
                raise NotOneToOne(letter)
        leads = {self[letter]: letter for letter in LETTERS}
        return Renaming(**leads)

    def within(self, other):
        """Tell whether the other one leads each letter that this one changes to the same letter."""
        return all([other[letter] == self[letter] for letter in self.leads])

    def __eq__(self, other):
        return isinstance(other, Renaming) and self.leads == other.leads

    def __len__(self):
        return len(self.leads)

    def __bool__(self):
        return bool(self.leads)

    def __str__(self):
        return " ".join([f"{letter}>{self.leads[letter]}" for letter in self.leads])
