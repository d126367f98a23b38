"""A day: deeds done one by one to a hedge, and answered.

answers(deeds): the answers of a day, a list.
twigs_behind(deeds): the twigs of the hedge behind a day, a list in the order of their texts.
do_all(hedge, deeds), do_one(hedge, deed): deeds done to a hedge, and their answers.
"""

from wordhedge.hedge import Hedge


def answers(deeds):
    return do_all(Hedge(), deeds)


def twigs_behind(deeds):
    hedge = Hedge()
    do_all(hedge, deeds)
    return hedge.twigs()


def do_all(hedge, deeds):
    answered = []
    for deed in deeds:
        answered.append(do_one(hedge, deed))
    return answered


def do_one(hedge, deed):
    name = deed[0]
    given = deed[1]
    if name == "put":
        return hedge.put(given)
    if name == "take":
        return hedge.take(given)
    if name == "has":
        return hedge.has(given)
    if name == "all":
        return hedge.words_with(given)
    if name == "longest":
        return hedge.longest(given)
    if name == "at":
        return hedge.at(given)
    return hedge.ahead(given)
