import unittest

from wordhedge.twig import Twig
from wordhedge.words import beginnings


def path(root, word):
    """The twigs of a word's beginnings, the shortest first, grown where need be."""
    twigs = [root]
    for letter in word:
        twigs.append(twigs[-1].grow(letter))
    return twigs


def settle_back(twigs):
    for twig in reversed(twigs):
        twig.settle()


def put(root, word):
    twigs = path(root, word)
    done = twigs[-1].put_here()
    settle_back(twigs)
    return done


def take(root, word):
    twigs = path(root, word)
    done = twigs[-1].take_here()
    settle_back(twigs)
    return done


def told_from(twig):
    """Whatever a twig and all longer ones tell, to compare a whole state."""
    return [twig.told()] + [told_from(twig.longer[letter]) for letter in sorted(twig.longer)]


class ToldTest(unittest.TestCase):
    def test_new_twig(self):
        self.assertEqual(Twig("ab").told(), ("ab", False, 0))
        self.assertEqual(Twig("").told(), ("", False, 0))

    def test_kinds(self):
        twig = Twig("ab")
        kinds = [tuple, str, bool, int]
        self.assertEqual([type(twig.told())] + [type(part) for part in twig.told()], kinds)
        for change in (twig.put_here, twig.settle, twig.take_here, twig.settle):
            change()
            self.assertEqual([type(twig.told())] + [type(part) for part in twig.told()], kinds)

    def test_no_two_twigs_share_what_they_keep(self):
        one = Twig("")
        other = Twig("")
        put(one, "a")
        self.assertEqual(told_from(other), [("", False, 0)])


class OwnWordTest(unittest.TestCase):
    def test_put_here(self):
        for text in ("", "a", "hedge", "q" * 110, "q" * 130):
            twig = Twig(text)
            self.assertIs(twig.put_here(), True)
            self.assertEqual(twig.told(), (text, True, 1))

    def test_put_here_twice_changes_nothing(self):
        twig = Twig("ab")
        twig.put_here()
        self.assertIs(twig.put_here(), False)
        self.assertEqual(twig.told(), ("ab", True, 1))

    def test_take_here(self):
        twig = Twig("ab")
        twig.put_here()
        self.assertIs(twig.take_here(), True)
        self.assertEqual(twig.told(), ("ab", False, 0))

    def test_take_here_of_no_word_changes_nothing(self):
        twig = Twig("ab")
        self.assertIs(twig.take_here(), False)
        self.assertEqual(twig.told(), ("ab", False, 0))

    def test_own_word_beside_longer_ones(self):
        root = Twig("")
        put(root, "a")
        put(root, "b")
        self.assertIs(root.put_here(), True)
        self.assertEqual(root.told(), ("", True, 3))
        self.assertIs(root.take_here(), True)
        self.assertEqual(root.told(), ("", False, 2))
        self.assertIs(root.take_here(), False)
        self.assertEqual(root.told(), ("", False, 2))


class LongerTest(unittest.TestCase):
    def test_grow_makes_a_twig_one_letter_longer(self):
        twig = Twig("he")
        self.assertEqual(twig.grow("d").told(), ("hed", False, 0))
        self.assertEqual(Twig("").grow("z").told(), ("z", False, 0))

    def test_grow_finds_the_twig_that_is_there(self):
        twig = Twig("")
        grown = twig.grow("a")
        grown.put_here()
        self.assertIs(twig.grow("a"), grown)
        self.assertEqual(grown.told(), ("a", True, 1))

    def test_follow(self):
        twig = Twig("")
        grown = twig.grow("a")
        self.assertIs(twig.follow("a"), grown)

    def test_follow_grows_nothing(self):
        twig = Twig("")
        twig.grow("a")
        self.assertIsNone(twig.follow("b"))
        self.assertEqual(list(twig.longer), ["a"])


class SettleTest(unittest.TestCase):
    def test_counts_own_word_and_longer_ones(self):
        root = Twig("")
        for word in ("ab", "a", "ac", "b", ""):
            self.assertIs(put(root, word), True)
        self.assertEqual(told_from(root), [
            ("", True, 5),
            [("a", True, 3), [("ab", True, 1)], [("ac", True, 1)]],
            [("b", True, 1)],
        ])

    def test_drops_what_no_word_needs(self):
        root = Twig("")
        path(root, "abc")
        root.settle()
        self.assertIsNone(root.follow("a"))
        self.assertEqual(root.told(), ("", False, 0))

    def test_keeps_what_a_word_needs(self):
        root = Twig("")
        put(root, "abc")
        root.settle()
        self.assertEqual(root.follow("a").follow("b").told(), ("ab", False, 1))

    def test_settling_again_changes_nothing(self):
        root = Twig("")
        for word in ("", "ab", "ac"):
            put(root, word)
        before = told_from(root)
        root.follow("a").settle()
        root.settle()
        self.assertEqual(told_from(root), before)

    def test_putting_a_word_twice_changes_nothing(self):
        root = Twig("")
        put(root, "ab")
        before = told_from(root)
        self.assertIs(put(root, "ab"), False)
        self.assertEqual(told_from(root), before)

    def test_taking_a_word_undoes_putting_it(self):
        for kept in ("", "a", "ab", "abd", "abcd", "b"):
            root = Twig("")
            put(root, kept)
            before = told_from(root)
            self.assertIs(put(root, "abc"), True)
            self.assertIs(take(root, "abc"), True)
            self.assertEqual(told_from(root), before)

    def test_taking_a_word_that_is_not_there_changes_nothing(self):
        root = Twig("")
        put(root, "ab")
        before = told_from(root)
        for word in ("", "a", "abc", "b"):
            self.assertIs(take(root, word), False)
            self.assertEqual(told_from(root), before)

    def test_long_words(self):
        for length in (110, 130):
            word = "q" * length
            root = Twig("")
            put(root, word)
            self.assertEqual([twig.text for twig in path(root, word)], beginnings(word))
            self.assertEqual({twig.many for twig in path(root, word)}, {1})
            self.assertIs(take(root, word), True)
            self.assertEqual(told_from(root), [("", False, 0)])


class PlaceTest(unittest.TestCase):
    def test_ahead_of(self):
        root = Twig("")
        for word in ("m", "b", "ba", "bz"):
            put(root, word)
        expected = {"a": 0, "b": 0, "c": 3, "m": 3, "n": 4, "z": 4}
        self.assertEqual({letter: root.ahead_of(letter) for letter in expected}, expected)
        root.put_here()
        for letter in expected:
            self.assertEqual(root.ahead_of(letter), expected[letter] + 1)

    def test_ahead_of_a_letter_of_a_twig_without_longer_ones(self):
        twig = Twig("ab")
        self.assertEqual(twig.ahead_of("z"), 0)
        twig.put_here()
        self.assertEqual(twig.ahead_of("a"), 1)

    def test_letter_at(self):
        root = Twig("")
        for word in ("m", "b", "ba", "bz"):
            put(root, word)
        self.assertEqual([root.letter_at(place) for place in range(4)], ["b", "b", "b", "m"])
        put(root, "")
        self.assertEqual([root.letter_at(place) for place in range(1, 5)], ["b", "b", "b", "m"])

    def test_asking_changes_nothing(self):
        root = Twig("")
        for word in ("", "m", "b", "ba"):
            put(root, word)
        before = told_from(root)
        root.ahead_of("c")
        root.letter_at(2)
        self.assertEqual(told_from(root), before)


if __name__ == "__main__":
    unittest.main()
