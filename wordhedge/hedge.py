"""The hedge: words that begin alike share a twig as far as they do.

Hedge(): a hedge without words.
put(word): True where the word was put in, False where it was there already.
take(word): True where the word was taken out, False where it wasn't there.
has(word): True where the word is there, else False.
words_with(text): the words with a beginning, a list in their order.
longest(line): the longest word that is a beginning of the line, or None.
at(place): the word at a place, counted from nought, or None.
ahead(text): how many words come ahead of a text.
twigs(): all twigs, told, a list in the order of their texts.
path_along(text): the twigs of a text's beginnings as far as there are any, the root first.

in_order(first): a twig and all that begin with its text, in the order of their texts.
settle_back(path): the twigs of a path settled, from the longest to the shortest.
"""

from wordhedge.twig import Twig


# With a list of twigs still to come, since a hedge may be deeper than a recursion should go.
def in_order(first):
    found = []
    to_come = [first]
    while to_come:
        twig = to_come.pop()
        found.append(twig)
        for letter in sorted(twig.longer, reverse=True):
            to_come.append(twig.follow(letter))
    return found


def settle_back(path):
    for twig in reversed(path):
        twig.settle()


class Hedge:
    # The root stays when there are no words, so that there is always a twig to grow from;
    # it is told only where it has words.
    def __init__(self):
        self.root = Twig("")

    def put(self, word):
        path = [self.root]
        for letter in word:
            path.append(path[-1].grow(letter))
        if not path[-1].put_here():
            return False
        settle_back(path)
        return True

    def take(self, word):
        path = self.path_along(word)
        if path[-1].text != word or not path[-1].take_here():
            return False
        settle_back(path)
        return True

    def has(self, word):
        last = self.path_along(word)[-1]
        return last.text == word and last.here

    def words_with(self, text):
        last = self.path_along(text)[-1]
        if last.text != text:
            return []
        return [twig.text for twig in in_order(last) if twig.here]

    def longest(self, line):
        for twig in reversed(self.path_along(line)):
            if twig.here:
                return twig.text
        return None

    def at(self, place):
        if place < 0 or place >= self.root.many:
            return None
        twig = self.root
        left = place
        while left > 0 or not twig.here:
            letter = twig.letter_at(left)
            left = left - twig.ahead_of(letter)
            twig = twig.follow(letter)
        return twig.text

    # Where the whole text has a twig, that one has no letter beside it and stays out:
    # none of its words comes ahead of the text.
    def ahead(self, text):
        return sum([twig.ahead_of(letter) for twig, letter in zip(self.path_along(text), text)])

    def twigs(self):
        if self.root.many == 0:
            return []
        return [twig.told() for twig in in_order(self.root)]

    def path_along(self, text):
        path = [self.root]
        for letter in text:
            twig = path[-1].follow(letter)
            if twig is None:
                break
            path.append(twig)
        return path
