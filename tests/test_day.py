import copy
import inspect
import random
import unittest
from functools import cmp_to_key

from wordhedge.day import answers, twigs_behind
from wordhedge.words import beginnings, shared

ASKING = ("has", "all", "longest", "at", "ahead")


def puts(words):
    return [("put", word) for word in words]


def asked(words, name, given):
    """The answer to one deed where the words are in the hedge."""
    return answers(puts(words) + [(name, given)])[-1]


def comes_ahead(one, other):
    """The order of words as the document tells it, letter by letter."""
    for mine, yours in zip(one, other):
        if mine != yours:
            return mine < yours
    return len(one) < len(other)


def in_order(words):
    return sorted(words, key=cmp_to_key(lambda one, other: -1 if comes_ahead(one, other) else 1))


class PlainDay:
    """A plain list of words, to hold the hedge against."""

    def __init__(self):
        self.words = []

    def do(self, deed):
        name, given = deed
        there = given in self.words
        if name == "put":
            if not there:
                self.words.append(given)
            return not there
        if name == "take":
            if there:
                self.words.remove(given)
            return there
        if name == "has":
            return there
        if name == "all":
            return in_order([word for word in self.words if word[:len(given)] == given])
        if name == "longest":
            fitting = [word for word in self.words if given[:len(word)] == word]
            return max(fitting, key=len) if fitting else None
        if name == "at":
            return in_order(self.words)[given] if 0 <= given < len(self.words) else None
        return sum(comes_ahead(word, given) for word in self.words)

    def twigs(self):
        many = {}
        for word in self.words:
            for length in range(len(word) + 1):
                many[word[:length]] = many.get(word[:length], 0) + 1
        return [(text, text in self.words, many[text]) for text in in_order(list(many))]


def made_up_text(draw, letters, most):
    return "".join(draw.choice(letters) for _ in range(draw.randint(0, most)))


def made_up_day(draw, deeds, letters, most):
    day = []
    for _ in range(deeds):
        name = draw.choice(("put", "put", "put", "take", "take") + ASKING)
        if name == "at":
            given = draw.randint(-3, deeds // 3 + 3)
        elif name == "longest":
            given = made_up_text(draw, letters, most * 2)
        else:
            given = made_up_text(draw, letters, most)
        day.append((name, given))
    return day


class InterfaceTest(unittest.TestCase):
    def test_arguments(self):
        for function in (answers, twigs_behind):
            self.assertEqual(list(inspect.signature(function).parameters), ["deeds"])
            self.assertEqual(function(deeds=[]), [])

    def test_empty_day(self):
        self.assertIs(type(answers([])), list)
        self.assertEqual(answers([]), [])
        self.assertIs(type(twigs_behind([])), list)
        self.assertEqual(twigs_behind([]), [])

    def test_each_day_begins_without_words(self):
        for _ in range(2):
            self.assertEqual(answers([("has", "a"), ("put", "a")]), [False, True])
            self.assertEqual(twigs_behind([("put", "a")]), [("", False, 1), ("a", True, 1)])
        self.assertEqual(twigs_behind([]), [])

    def test_one_answer_for_each_deed_in_turn(self):
        deeds = [
            ("at", 0), ("put", "hedge"), ("put", "he"), ("put", "heath"), ("all", "he"), ("longest", "hedgehog"),
            ("at", 1), ("ahead", "hea"), ("take", "he"), ("longest", "hear"), ("has", "heath"), ("all", ""),
        ]
        self.assertEqual(answers(deeds), [
            None, True, True, True, ["he", "heath", "hedge"], "hedge",
            "heath", 1, True, None, True, ["heath", "hedge"],
        ])


class PutTakeHasTest(unittest.TestCase):
    def test_put(self):
        for word in ("", "a", "z", "hedge", "q" * 110):
            told = answers([("put", word), ("put", word), ("put", word)])
            self.assertEqual(told, [True, False, False])
            self.assertEqual([type(one) for one in told], [bool] * 3)

    def test_put_of_a_beginning_and_of_a_longer_word(self):
        self.assertEqual(answers(puts(["ab", "a", "abc", "", "ab"])), [True, True, True, True, False])

    def test_take(self):
        for word in ("", "a", "z", "hedge", "q" * 110):
            told = answers([("take", word), ("put", word), ("take", word), ("take", word), ("put", word)])
            self.assertEqual(told, [False, True, True, False, True])
            self.assertEqual([type(one) for one in told], [bool] * 5)

    def test_take_of_a_beginning_or_of_a_longer_text(self):
        for text in ("", "a", "abc", "b", "ac"):
            deeds = [("put", "ab"), ("take", text), ("has", "ab"), ("all", "")]
            self.assertEqual(answers(deeds), [True, False, True, ["ab"]])

    def test_take_leaves_beginnings_and_longer_words(self):
        deeds = puts(["a", "ab", "abc"]) + [("take", "ab"), ("all", ""), ("has", "ab")]
        self.assertEqual(answers(deeds)[3:], [True, ["a", "abc"], False])

    def test_put_twice_then_take_once(self):
        deeds = [("put", "a"), ("put", "a"), ("take", "a"), ("has", "a"), ("all", ""), ("at", 0), ("ahead", "b")]
        self.assertEqual(answers(deeds), [True, False, True, False, [], None, 0])

    def test_has(self):
        for text, expected in (
            ("ab", True), ("abcd", True), ("", False), ("a", False), ("abc", False),
            ("abcde", False), ("aba", False), ("b", False), ("z" * 110, False),
        ):
            told = asked(["ab", "abcd"], "has", text)
            self.assertIs(told, expected, text)

    def test_has_the_empty_word(self):
        self.assertIs(asked([], "has", ""), False)
        self.assertIs(asked(["a"], "has", ""), False)
        self.assertIs(asked(["", "a"], "has", ""), True)


class AllTest(unittest.TestCase):
    words = ["b", "ab", "", "abc", "aa", "a", "ba", "abb", "z"]

    def test_all(self):
        for text, expected in (
            ("", ["", "a", "aa", "ab", "abb", "abc", "b", "ba", "z"]),
            ("a", ["a", "aa", "ab", "abb", "abc"]),
            ("ab", ["ab", "abb", "abc"]),
            ("abc", ["abc"]),
            ("b", ["b", "ba"]),
            ("z", ["z"]),
        ):
            told = asked(self.words, "all", text)
            self.assertIs(type(told), list)
            self.assertEqual(told, expected)

    def test_beginning_that_is_no_word(self):
        self.assertEqual(asked(["abd", "abc", "b"], "all", "ab"), ["abc", "abd"])
        self.assertEqual(asked(["abd", "abc", "b"], "all", ""), ["abc", "abd", "b"])

    def test_no_word_with_that_beginning(self):
        for text in ("c", "abcd", "ac", "zz", "y", "q" * 110):
            told = asked(self.words, "all", text)
            self.assertIs(type(told), list)
            self.assertEqual(told, [])

    def test_hedge_without_words(self):
        self.assertEqual(answers([("all", ""), ("all", "a")]), [[], []])
        self.assertEqual(answers([("put", "a"), ("take", "a"), ("all", ""), ("all", "a")])[2:], [[], []])

    def test_lists_of_one_day_are_apart(self):
        told = answers([("put", "a"), ("all", ""), ("all", ""), ("put", "b"), ("all", "")])
        self.assertEqual(told[1:], [["a"], ["a"], True, ["a", "b"]])
        told[1].append("x")
        self.assertEqual(told[2], ["a"])

    def test_order_at_the_first_place_that_differs(self):
        words = ["zebra", "az", "b", "aaz", "ab", "aaaa", "ba", "aa"]
        self.assertEqual(asked(words, "all", ""), ["aa", "aaaa", "aaz", "ab", "az", "b", "ba", "zebra"])

    def test_every_letter(self):
        letters = "abcdefghijklmnopqrstuvwxyz"
        self.assertEqual(asked(reversed(letters), "all", ""), list(letters))
        self.assertEqual(asked(["q" + letter for letter in reversed(letters)], "all", "q"),
                         ["q" + letter for letter in letters])


class LongestTest(unittest.TestCase):
    def test_empty_line(self):
        self.assertIsNone(asked([], "longest", ""))
        self.assertIsNone(asked(["a"], "longest", ""))
        self.assertEqual(asked(["a", ""], "longest", ""), "")
        self.assertEqual(asked([""], "longest", ""), "")

    def test_several_fitting_words(self):
        words = ["h", "hedge", "he", "hedgehogs", "hedgerow"]
        for line, expected in (
            ("hedgehog", "hedge"), ("hedgehogs", "hedgehogs"), ("hedgehogsty", "hedgehogs"), ("hedg", "he"),
            ("hedge", "hedge"), ("hazel", "h"), ("h", "h"),
        ):
            self.assertEqual(asked(words, "longest", line), expected)

    def test_none_fits(self):
        for line in ("", "a", "b", "aab", "xab", "ba"):
            self.assertIsNone(asked(["ab", "abc"], "longest", line))
        self.assertIsNone(asked([], "longest", "abc"))

    def test_the_empty_word_fits_every_line(self):
        for line in ("", "a", "zz", "q" * 200):
            self.assertEqual(asked(["", "ab"], "longest", line), "")
        self.assertEqual(asked(["", "ab"], "longest", "abz"), "ab")

    def test_a_word_within_the_line_or_longer_than_it_does_not_fit(self):
        self.assertIsNone(asked(["b", "abcd"], "longest", "abc"))

    def test_words_taken_out_fit_no_more(self):
        deeds = puts(["a", "ab"]) + [("take", "ab"), ("longest", "abc"), ("take", "a"), ("longest", "abc")]
        self.assertEqual(answers(deeds)[2:], [True, "a", True, None])


class AtTest(unittest.TestCase):
    words = ["b", "ab", "", "abc", "aa", "a", "ba", "z"]

    def test_each_place(self):
        expected = ["", "a", "aa", "ab", "abc", "b", "ba", "z"]
        self.assertEqual([asked(self.words, "at", place) for place in range(8)], expected)

    def test_each_place_without_the_empty_word(self):
        words = ["abc", "abd", "b"]
        self.assertEqual([asked(words, "at", place) for place in range(4)], words + [None])

    def test_no_such_place(self):
        for place in (8, 9, 10 ** 9, -1, -2, -7, -8, -9, -10 ** 9):
            self.assertIsNone(asked(self.words, "at", place))

    def test_hedge_without_words(self):
        for place in (-10 ** 9, -1, 0, 1, 10 ** 9):
            self.assertIsNone(asked([], "at", place))
            self.assertIsNone(answers([("put", "a"), ("take", "a"), ("at", place)])[-1])

    def test_the_empty_word_alone(self):
        self.assertEqual([asked([""], "at", place) for place in (-1, 0, 1)], [None, "", None])

    def test_places_after_a_take(self):
        deeds = puts(["a", "ab", "b"]) + [("take", "ab"), ("at", 0), ("at", 1), ("at", 2)]
        self.assertEqual(answers(deeds)[4:], ["a", "b", None])


class AheadTest(unittest.TestCase):
    words = ["ba", "d", "b", "bad"]

    def test_words_there(self):
        for text, expected in (("b", 0), ("ba", 1), ("bad", 2), ("d", 3)):
            self.assertEqual(asked(self.words, "ahead", text), expected)

    def test_texts_not_there(self):
        for text, expected in (
            ("", 0), ("a", 0), ("azzz", 0), ("baa", 2), ("bac", 2), ("bada", 3), ("bb", 3), ("c", 3), ("cz", 3),
            ("da", 4), ("e", 4), ("z", 4), ("z" * 110, 4),
        ):
            told = asked(self.words, "ahead", text)
            self.assertIs(type(told), int)
            self.assertEqual(told, expected, text)

    def test_a_beginning_that_is_no_word(self):
        self.assertEqual(asked(["abc", "abd", "aa"], "ahead", "ab"), 1)

    def test_the_empty_word(self):
        self.assertEqual(asked([""], "ahead", ""), 0)
        self.assertEqual(asked(["", "a"], "ahead", ""), 0)
        self.assertEqual(asked([""], "ahead", "a"), 1)
        self.assertEqual(asked(["", "b"], "ahead", "a"), 1)

    def test_hedge_without_words(self):
        for text in ("", "a", "z"):
            told = asked([], "ahead", text)
            self.assertIs(type(told), int)
            self.assertEqual(told, 0)

    def test_after_a_take(self):
        deeds = puts(["a", "ab", "b"]) + [("take", "ab"), ("ahead", "b"), ("ahead", "c")]
        self.assertEqual(answers(deeds)[4:], [1, 2])


class NothingChangedTest(unittest.TestCase):
    def test_asking_changes_nothing(self):
        texts = ("", "a", "ab", "abc", "abcd", "b", "q" * 120)
        asking = [(name, text) for name in ("has", "all", "longest", "ahead") for text in texts]
        asking += [("at", place) for place in (-1, 0, 1, 2, 3, 10 ** 9, -10 ** 9)]
        for words in ([], [""], ["ab"], ["abc", "a", "", "b"]):
            for deed in asking:
                day = puts(words) + [deed]
                self.assertEqual(twigs_behind(day), twigs_behind(puts(words)))
                self.assertEqual(answers(day + [("all", "")])[-1], sorted(words))
            twice = answers(puts(words) + asking + asking)[len(words):]
            self.assertEqual(twice[:len(asking)], twice[len(asking):])

    def test_put_of_a_word_there_and_take_of_none_change_nothing(self):
        words = ["ab", "", "abc"]
        for deed in (("put", "ab"), ("put", ""), ("take", "a"), ("take", "abcd"), ("take", "z")):
            self.assertEqual(twigs_behind(puts(words) + [deed]), twigs_behind(puts(words)))

    def test_deeds_stay_as_they_were(self):
        deeds = puts(["ab", "", "abc"]) + [
            ("take", "ab"), ("has", "a"), ("all", ""), ("longest", "abcd"), ("at", 0), ("ahead", "b"),
        ]
        before = copy.deepcopy(deeds)
        answers(deeds)
        self.assertEqual(deeds, before)
        twigs_behind(deeds)
        self.assertEqual(deeds, before)


class TwigsTest(unittest.TestCase):
    def test_all_words_taken_out(self):
        self.assertEqual(twigs_behind(puts(["ab", "", "b"]) + [("take", "b"), ("take", ""), ("take", "ab")]), [])
        self.assertEqual(twigs_behind([("put", ""), ("take", "")]), [])

    def test_a_day_without_puts(self):
        self.assertEqual(twigs_behind([("take", "a"), ("has", "ab"), ("all", "a"), ("longest", "abc"), ("at", 0)]), [])

    def test_a_word_and_its_beginnings(self):
        self.assertEqual(twigs_behind(puts(["abc"])), [
            ("", False, 1), ("a", False, 1), ("ab", False, 1), ("abc", True, 1),
        ])
        self.assertEqual(twigs_behind(puts(["abc", "a"])), [
            ("", False, 2), ("a", True, 2), ("ab", False, 1), ("abc", True, 1),
        ])

    def test_words_that_share_a_beginning(self):
        self.assertEqual(twigs_behind(puts(["hedge", "heath"])), [
            ("", False, 2), ("h", False, 2), ("he", False, 2),
            ("hea", False, 1), ("heat", False, 1), ("heath", True, 1),
            ("hed", False, 1), ("hedg", False, 1), ("hedge", True, 1),
        ])

    def test_two_words_share_twigs_as_far_as_they_begin_alike(self):
        for one, other in (("hedge", "heath"), ("he", "hedge"), ("a", "b"), ("", "a"), ("q" * 110, "q" * 109 + "r")):
            told = twigs_behind(puts([one, other]))
            self.assertEqual([text for text, here, many in told if many == 2], beginnings(shared(one, other)))

    def test_words_that_share_nothing(self):
        self.assertEqual(twigs_behind(puts(["b", "a"])), [("", False, 2), ("a", True, 1), ("b", True, 1)])

    def test_take_leaves_a_shared_beginning(self):
        self.assertEqual(twigs_behind(puts(["abc", "abd"]) + [("take", "abc")]), [
            ("", False, 1), ("a", False, 1), ("ab", False, 1), ("abd", True, 1),
        ])

    def test_take_of_the_longer_word(self):
        self.assertEqual(twigs_behind(puts(["a", "abc"]) + [("take", "abc")]), [("", False, 1), ("a", True, 1)])

    def test_take_of_the_shorter_word(self):
        self.assertEqual(twigs_behind(puts(["a", "ab"]) + [("take", "a")]), [
            ("", False, 1), ("a", False, 1), ("ab", True, 1),
        ])

    def test_the_empty_word(self):
        self.assertEqual(twigs_behind(puts([""])), [("", True, 1)])
        self.assertEqual(twigs_behind(puts(["", "b"])), [("", True, 2), ("b", True, 1)])
        self.assertEqual(twigs_behind(puts(["", "b"]) + [("take", "")]), [("", False, 1), ("b", True, 1)])
        self.assertEqual(twigs_behind(puts(["", "b"]) + [("take", "b")]), [("", True, 1)])

    def test_a_word_put_twice_counts_once(self):
        self.assertEqual(twigs_behind(puts(["a", "a"])), [("", False, 1), ("a", True, 1)])

    def test_order_of_texts(self):
        told = twigs_behind(puts(["z", "ba", "b", "abz", "ac"]))
        self.assertEqual([text for text, here, many in told], ["", "a", "ab", "abz", "ac", "b", "ba", "z"])

    def test_kinds(self):
        told = twigs_behind(puts(["abc", "", "b", "ab"]) + [("take", "ab")])
        self.assertIs(type(told), list)
        for twig in told:
            self.assertIs(type(twig), tuple)
            self.assertEqual([type(part) for part in twig], [str, bool, int])


class LargeTest(unittest.TestCase):
    def check(self, deeds):
        plain = PlainDay()
        self.assertEqual(answers(deeds), [plain.do(deed) for deed in deeds])
        self.assertEqual(twigs_behind(deeds), plain.twigs())

    def test_one_long_word(self):
        for length in (109, 110, 111, 130):
            word = ("hedge" * length)[:length]
            self.assertEqual(twigs_behind(puts([word])), [
                (word[:most], most == length, 1) for most in range(length + 1)
            ])
            self.assertEqual(asked([word], "longest", word + "z" * 100), word)
            self.assertEqual(asked([word], "at", 0), word)
            self.assertEqual(asked([word], "all", word[:50]), [word])
            self.assertEqual(twigs_behind(puts([word]) + [("take", word)]), [])

    def test_long_lines(self):
        words = ["a" * length for length in (1, 50, 110, 120)]
        for length in (200, 201, 230):
            self.assertEqual(asked(words, "longest", "a" * length), "a" * 120)
            self.assertEqual(asked(words[:3], "longest", "a" * 110 + "b" * (length - 110)), "a" * 110)
            self.assertEqual(asked(words, "longest", "a" * 60 + "b" * (length - 60)), "a" * 50)
            self.assertIsNone(asked(words, "longest", "b" * length))

    def test_all_beginnings_of_a_long_word(self):
        for most in (110, 120):
            words = ["q" * length for length in range(most + 1)]
            told = answers(puts(reversed(words)) + [("all", "")] + [("at", place) for place in range(most + 1)])
            self.assertEqual(told[most + 1], words)
            self.assertEqual(told[most + 2:], words)
            self.assertEqual(twigs_behind(puts(words)), [
                ("q" * length, True, most + 1 - length) for length in range(most + 1)
            ])

    def test_days_full_of_puts(self):
        for deeds in (450, 500):
            words = [chr(97 + n % 26) + chr(97 + n // 26) for n in range(deeds)]
            self.assertEqual(answers(puts(words)), [True] * deeds)
            told = twigs_behind(puts(words))
            self.assertEqual(told[0], ("", False, deeds))
            self.assertEqual(len(told), 1 + 26 + deeds)

    def test_full_days_of_long_words(self):
        draw = random.Random(110)
        for count, length in ((450, 110), (480, 125)):
            common = "hedge" * 20
            words = []
            for _ in range(count // 5):
                start = common[:draw.randint(0, len(common))]
                words.append((start + "".join(draw.choice("abcxyz") for _ in range(length)))[:length])
            deeds = puts(words)
            while len(deeds) < count:
                name = draw.choice(("put", "take") + ASKING)
                word = draw.choice(words)
                if name == "at":
                    given = draw.randint(-2, len(words) + 2)
                elif name == "longest":
                    given = word + made_up_text(draw, "az", 90)
                elif name in ("all", "ahead"):
                    given = word[:draw.randint(0, length)]
                else:
                    given = word
                deeds.append((name, given))
            self.check(deeds)


class MadeUpDaysTest(unittest.TestCase):
    def check_days(self, seed, days, deeds, letters, most):
        draw = random.Random(seed)
        for _ in range(days):
            day = made_up_day(draw, deeds, letters, most)
            before = list(day)
            plain = PlainDay()
            self.assertEqual(answers(day), [plain.do(deed) for deed in day])
            self.assertEqual(twigs_behind(day), plain.twigs())
            self.assertEqual(day, before)

    def test_short_days_of_few_words(self):
        self.check_days(1, 2000, 12, "ab", 2)

    def test_middling_days(self):
        self.check_days(2, 400, 60, "abz", 4)

    def test_words_that_share_much(self):
        self.check_days(3, 150, 100, "a", 20)

    def test_all_letters(self):
        self.check_days(4, 100, 120, "abcdefghijklmnopqrstuvwxyz", 3)

    def test_full_days(self):
        self.check_days(5, 20, 450, "abc", 5)

    def test_twigs_behind_each_part_of_a_day(self):
        draw = random.Random(6)
        for _ in range(20):
            day = made_up_day(draw, 30, "ab", 3)
            plain = PlainDay()
            for done, deed in enumerate(day, start=1):
                plain.do(deed)
                self.assertEqual(twigs_behind(day[:done]), plain.twigs())


if __name__ == "__main__":
    unittest.main()
