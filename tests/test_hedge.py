import unittest

from wordhedge.hedge import Hedge
from wordhedge.words import beginnings


def hedge_of(words):
    hedge = Hedge()
    for word in words:
        hedge.put(word)
    return hedge


class ChangeTest(unittest.TestCase):
    def test_hedges_share_nothing(self):
        hedge_of(["a"])
        self.assertEqual(Hedge().twigs(), [])

    def test_put_once(self):
        hedge = Hedge()
        self.assertIs(hedge.put("ab"), True)
        before = hedge.twigs()
        self.assertIs(hedge.put("ab"), False)
        self.assertEqual(hedge.twigs(), before)

    def test_take_undoes_put(self):
        for kept in ("", "a", "ab", "abd", "abcd", "b"):
            hedge = hedge_of([kept])
            before = hedge.twigs()
            self.assertIs(hedge.put("abc"), True)
            self.assertIs(hedge.take("abc"), True)
            self.assertEqual(hedge.twigs(), before)

    def test_take_of_a_text_that_is_no_word_changes_nothing(self):
        hedge = hedge_of(["ab", "ac"])
        before = hedge.twigs()
        for text in ("", "a", "abc", "b", "ad", "aba"):
            self.assertIs(hedge.take(text), False)
            self.assertEqual(hedge.twigs(), before)

    def test_put_again_after_take(self):
        hedge = hedge_of(["ab"])
        hedge.take("ab")
        self.assertIs(hedge.put("ab"), True)
        self.assertEqual(hedge.twigs(), [("", False, 1), ("a", False, 1), ("ab", True, 1)])

    def test_the_way_to_the_same_words_does_not_matter(self):
        one = hedge_of(["a", "b", "abc", ""])
        other = hedge_of(["", "abc", "x", "b", "a"])
        other.take("x")
        self.assertEqual(one.twigs(), other.twigs())


class AskTest(unittest.TestCase):
    def test_asking_changes_nothing(self):
        for words in ([], [""], ["ab", "b"], ["", "a", "abc", "ad"]):
            hedge = hedge_of(words)
            before = hedge.twigs()
            for text in ("", "a", "ab", "abcd", "q"):
                hedge.has(text)
                hedge.words_with(text)
                hedge.longest(text)
                hedge.ahead(text)
            for place in range(-2, 6):
                hedge.at(place)
            self.assertEqual(hedge.twigs(), before)

    def test_what_is_told_is_no_part_of_the_hedge(self):
        hedge = hedge_of(["a", "b"])
        hedge.words_with("").append("c")
        hedge.twigs().append(("c", True, 1))
        self.assertEqual(hedge.words_with(""), ["a", "b"])
        self.assertEqual(hedge.twigs(), [("", False, 2), ("a", True, 1), ("b", True, 1)])

    def test_places_and_words_ahead_agree(self):
        words = ["", "a", "aa", "ab", "abz", "b", "ba", "z", "za", "zz"]
        hedge = hedge_of(reversed(words))
        self.assertEqual(hedge.words_with(""), words)
        for place, word in enumerate(words):
            self.assertEqual(hedge.at(place), word)
            self.assertEqual(hedge.ahead(word), place)
            # Nothing lies between a word and the same word with an "a" behind it.
            self.assertEqual(hedge.ahead(word + "a"), place + 1)


class DeepTest(unittest.TestCase):
    def test_words_far_beyond_the_bound(self):
        word = "ab" * 1500
        hedge = hedge_of([word])
        self.assertEqual([text for text, here, many in hedge.twigs()], beginnings(word))
        self.assertEqual(hedge.words_with(""), [word])
        self.assertEqual(hedge.longest(word + "z"), word)
        self.assertEqual(hedge.at(0), word)
        self.assertEqual(hedge.ahead(word + "a"), 1)
        self.assertIs(hedge.take(word), True)
        self.assertEqual(hedge.twigs(), [])


if __name__ == "__main__":
    unittest.main()
