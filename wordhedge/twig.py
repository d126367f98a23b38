"""A single twig: one beginning, and the twigs that are one letter longer.

told(): the tuple (text, here, many).
put_here(): the twig's text becomes a word; True where it was none yet.
take_here(): the twig's text is a word no more; True where it was one.
follow(letter): the twig longer by a letter, None where there is none.
grow(letter): the twig longer by a letter, made where there is none.
settle(): longer twigs that no word needs go, and the words are counted anew.
ahead_of(letter): how many of the twig's words come ahead of its text with a letter behind it.
letter_at(place): the letter to follow to the word at a place among the twig's words,
which isn't the twig's own text; for a settled twig.
"""


class Twig:
    def __init__(self, text):
        self.text = text
        self.here = False
        self.many = 0
        self.longer = {}

    def told(self):
        return (self.text, self.here, self.many)

    def put_here(self):
        if self.here:
            return False
        self.here = True
        self.many = self.many + 1
        return True

    def take_here(self):
        if not self.here:
            return False
        self.here = False
        self.many = self.many - 1
        return True

    def follow(self, letter):
        return self.longer.get(letter)

    def grow(self, letter):
        if letter not in self.longer:
            self.longer[letter] = Twig(self.text + letter)
        return self.longer[letter]

    # A twig sees only the counts of those one letter longer, so after a change
    # the twigs of a word must be settled from the longest to the shortest.
    def settle(self):
        kept = {}
        many = 1 if self.here else 0
        for letter, twig in self.longer.items():
            if twig.many > 0:
                kept[letter] = twig
                many = many + twig.many
        self.longer = kept
        self.many = many

    def ahead_of(self, letter):
        many = 1 if self.here else 0
        for other, twig in self.longer.items():
            if other < letter:
                many = many + twig.many
        return many

    def letter_at(self, place):
        return max([letter for letter in self.longer if self.ahead_of(letter) <= place])
