"""Words and their beginnings.

beginnings(word): all beginnings of a word, from the empty text to the word.
shared(one, other): the longest text that is a beginning of both words.
"""


def beginnings(word):
    return [word[:length] for length in range(len(word) + 1)]


def shared(one, other):
    most = min(len(one), len(other))
    length = 0
    while length < most and one[length] == other[length]:
        length = length + 1
    return one[:length]
