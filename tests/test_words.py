import unittest

from wordhedge.words import beginnings, shared

LONGEST = "abcdefghijk" * 10
BEYOND = LONGEST + "lmnopqrstu"


class BeginningsTest(unittest.TestCase):
    def test_empty_word(self):
        self.assertEqual(beginnings(""), [""])

    def test_one_letter(self):
        self.assertEqual(beginnings("z"), ["", "z"])

    def test_two_letters(self):
        self.assertEqual(beginnings("ab"), ["", "a", "ab"])

    def test_ordinary_word(self):
        self.assertEqual(beginnings("hedge"), ["", "h", "he", "hed", "hedg", "hedge"])

    def test_equal_letters(self):
        self.assertEqual(beginnings("aaaa"), ["", "a", "aa", "aaa", "aaaa"])

    def test_long_words(self):
        self.assertEqual(len(LONGEST), 110)
        for word in (LONGEST, BEYOND, "q" * 110, "q" * 130):
            found = beginnings(word)
            self.assertEqual([len(text) for text in found], list(range(len(word) + 1)))
            self.assertTrue(all(word.startswith(text) for text in found))

    def test_kinds(self):
        for word in ("", "a", "hedge"):
            found = beginnings(word)
            self.assertIs(type(found), list)
            self.assertEqual({type(text) for text in found}, {str})

    def test_each_answer_is_a_list_of_its_own(self):
        beginnings("ab").append("x")
        self.assertEqual(beginnings("ab"), ["", "a", "ab"])


class SharedTest(unittest.TestCase):
    def check(self, one, other, text):
        self.assertEqual(shared(one, other), text)
        self.assertEqual(shared(other, one), text)
        self.assertIs(type(shared(one, other)), str)

    def test_differ_at_the_first_letter(self):
        self.check("apple", "pear", "")
        self.check("a", "b", "")

    def test_alike_only_behind_the_first_letter(self):
        self.check("bold", "cold", "")

    def test_differ_at_a_later_letter(self):
        self.check("hedge", "heath", "he")
        self.check("hedge", "hedgy", "hedg")

    def test_alike_again_behind_the_difference(self):
        self.check("hedge", "helge", "he")

    def test_equal_words(self):
        self.check("hedge", "hedge", "hedge")
        self.check("a", "a", "a")

    def test_word_and_its_beginning(self):
        for text in beginnings("hedge"):
            self.check("hedge", text, text)

    def test_equal_letters(self):
        self.check("aaa", "aaaaa", "aaa")

    def test_empty_word(self):
        self.check("", "hedge", "")
        self.check("", "", "")

    def test_long_words(self):
        self.check(LONGEST, LONGEST, LONGEST)
        self.check(LONGEST, BEYOND, LONGEST)
        self.check(BEYOND, BEYOND, BEYOND)
        self.check(LONGEST[:-1] + "y", LONGEST[:-1] + "z", LONGEST[:-1])
        self.check("y" + LONGEST, "z" + LONGEST, "")


if __name__ == "__main__":
    unittest.main()
