"""Stage 13: tables as texts [25]."""

import unittest

from homeround.errors import NoText, RoundError
from homeround.texts import read_table, show_table
from tests.samples import made, numbers, on_a_line, same_ways, sample_tables, with_way

FIGURES = "0123456789"


def is_written_length(word):
    if not word or any(sign not in FIGURES for sign in word) or len(word) > 7:
        return False
    return (word == "0" or word[0] != "0") and int(word) <= 10 ** 6


def frame(many):
    """The words of a table of many places, None for each that may be any length."""
    words = []
    for i in range(many):
        words += ["/"] if i else []
        words += ["0" if i == j else None for j in range(many)]
    return words


FRAMES = [frame(many) for many in range(1, 9)]


def does_fit(word, some, at):
    """Whether a word may stand at its number in a frame."""
    if at >= len(some):
        return False
    return word == some[at] if some[at] else is_written_length(word)


def wrong_at(text):
    """The number of the word by which a text writes no table, how many there are, or None where it writes one."""
    words = text.split(" ")
    left = FRAMES
    for at, word in enumerate(words):
        left = [some for some in left if does_fit(word, some, at)]
        if not left:
            return at
    return None if any(len(some) == len(words) for some in left) else len(words)


def words_otherwise(words):
    """Lists of words with one otherwise: left out, doubled, put in, exchanged, cut."""
    strange = [
        "", "0", "1", "7", "00", "01", "007", "1000000", "1000001", "9999999", "10000000", "-1", "+1", "-0", "1.0",
        "1e3", "/", "//", "/0", "0/", "|", "\\", "x", "a1", "1a", "\t", "\n", "0\t", "\t0", "0\n", "\n0", "1\n", "\r",
        "1_0", "~", "1" * 40, "0x1", "1,", "None", "True", "!", "5" * 500,
    ]
    found = [words[:at] for at in range(len(words))]
    for at in range(len(words) + 1):
        found += [words[:at] + [word] + words[at:] for word in strange]
    for at in range(len(words)):
        found += [words[:at] + [word] + words[at + 1:] for word in strange]
        found += [words[:at] + words[at + 1:], words[:at] + [words[at]] + words[at:]]
    for at in range(len(words) - 1):
        found.append(words[:at] + [words[at + 1], words[at]] + words[at + 2:])
    return found


class Texts(unittest.TestCase):
    def check(self, text):
        """Whether a text is read or refused as it must be."""
        at = wrong_at(text)
        if at is None:
            table = read_table(text)
            self.assertEqual(show_table(table), text)
        else:
            with self.assertRaises(NoText) as caught:
                read_table(text)
            self.assertEqual(caught.exception.at, at, repr(text))
            self.assertIs(type(caught.exception.at), int)
        return at

    def refuse(self, text, at):
        self.assertEqual(self.check(text), at, repr(text))

    def test_each_table(self):
        for table in sample_tables():
            text = show_table(table)
            self.assertIs(type(text), str)
            self.assertEqual(text, " / ".join(" ".join(map(str, row)) for row in table))
            told = read_table(text)
            self.assertEqual(told, table)
            self.assertIs(type(told), tuple)
            for row in told:
                self.assertIs(type(row), tuple)
                for way in row:
                    self.assertIs(type(way), int)

    def test_by_hand(self):
        self.assertEqual(show_table(((0,),)), "0")
        self.assertEqual(show_table(((0, 12), (3, 0))), "0 12 / 3 0")
        self.assertEqual(read_table("0"), ((0,),))
        self.assertEqual(read_table("0 12 / 3 0"), ((0, 12), (3, 0)))

    def test_the_greatest_text(self):
        table = same_ways(8, 10 ** 6)
        text = show_table(table)
        self.assertEqual(len(text), 477)
        self.assertEqual(read_table(text), table)
        for i in range(8):
            for j in range(8):
                if i != j:
                    at = 9 * i + j
                    self.refuse(show_table(with_way(table, i, j, 10 ** 6 + 1)), at)

    def test_no_signs(self):
        self.refuse("", 0)

    def test_one_word_otherwise(self):
        for many in range(1, 9):
            seeds = range(2) if many < 5 else range(1)
            for seed in seeds:
                words = show_table(made(many, (9, 10 ** 6)[seed], 3 + seed)).split(" ")
                for other in words_otherwise(words):
                    self.check(" ".join(other))

    def test_cut_behind_any_word(self):
        for table in sample_tables():
            words = show_table(table).split(" ")
            for size in range(1, len(words)):
                # A text of one word, 0, is a table; any other one that is cut lacks words alone.
                expected = None if size == 1 else size
                self.assertEqual(self.check(" ".join(words[:size])), expected)
                self.refuse(" ".join(words[:size]) + " ", size)

    def test_cut_behind_any_sign(self):
        for table in (made(3, 10 ** 6, 1), made(4, 30, 2), on_a_line(5)):
            text = show_table(table)
            for size in range(len(text)):
                self.check(text[:size])
                self.check(text[size:])

    def test_a_sign_put_in_or_left_out(self):
        for table in (made(2, 10 ** 6, 1), made(3, 12, 2), made(4, 300, 5)):
            text = show_table(table)
            for at in range(len(text) + 1):
                for sign in " \t\n/0123~-+":
                    self.check(text[:at] + sign + text[at:])
                    self.check(text[:at] + sign + text[at + 1:])
                self.check(text[:at] + text[at + 1:])

    def test_blanks(self):
        self.refuse(" ", 0)
        self.refuse(" 0", 0)
        self.refuse("0 ", 1)
        self.refuse("0  1 / 1 0", 1)
        self.refuse("0 1  / 1 0", 2)
        self.refuse("0 1 /  1 0", 3)
        self.refuse("0 1 / 1 0 ", 5)
        self.refuse("0 1 / 1 0\n", 4)
        self.refuse("0 1\t/ 1 0", 1)
        self.refuse("0\n1 / 1 0", 0)
        self.refuse(" " * 600, 0)

    def test_slashes(self):
        self.refuse("/", 0)
        # One place has one row alone.
        self.refuse("0 /", 1)
        self.refuse("0 / 0", 1)
        self.refuse("0 1 1 0", 3 + 1)
        self.refuse("0 1 / / 1 0", 3)
        self.refuse("0 1 / 1 0 /", 5)
        self.refuse("0 1 / 1 / 0", 4)
        self.refuse("0 1/ 1 0", 1)
        self.refuse("0 1 /1 0", 2)
        self.refuse("0 1 / 1 0 / 0", 5)

    def test_rows(self):
        self.refuse("0 1 2 / 1 0 3", 7)
        self.refuse("0 1 2 / 1 0 3 /", 8)
        self.refuse("0 1 2 / 1 0 3 / 4 5", 10)
        self.refuse("0 1 2 / 1 0 3 / 4 5 0 /", 11)
        self.refuse("0 1 2 / 1 0 3 / 4 5 0 6", 11)
        self.refuse("0 1 2 / 1 0 / 3", 6)
        self.refuse("0 1 2 / 1 0 3 4", 7)
        self.refuse("0 1 2 3 4 5 6 7", 8)
        self.refuse("0 1 2 3 4 5 6 7 8", 8)
        self.refuse("0 1 2 3 4 5 6 7 8 /", 8)

    def test_own_places(self):
        self.refuse("1", 0)
        self.refuse("1 0", 0)
        self.refuse("0 1 / 1 2", 4)
        self.refuse("0 1 / 0 1", 4)
        for many in range(1, 9):
            for own in range(many):
                self.refuse(show_table(with_way(made(many, 9, 1), own, own, 4)), own * (many + 2))

    def test_figures(self):
        for word in ("00", "01", "+1", "-1", "1_0", "1.0", "1000001", "x", "1x", "x1", "9" * 50, "7" * 590, "0x1", "^"):
            self.refuse("0 " + word + " / 1 0", 1)
            self.refuse("0 1 / " + word + " 0", 3)
        for word in ("0", "1", "10", "999999", "1000000"):
            self.assertIsNone(self.check("0 " + word + " / " + word + " 0"))

    def test_other_signs(self):
        # Signs that Python counts among the figures, too, are none here.
        for word in ("\u0661", "\u00b2", "\u2460", "\uff11", "\u00a0", "1\u00a0", "\u2003"):
            with self.assertRaises(NoText) as caught:
                read_table("0 " + word + " / 1 0")
            self.assertEqual(caught.exception.at, 1)

    def test_drawn_words(self):
        source = numbers(5)
        words = ["0", "0", "0", "1", "12", "/", "/", "", "01", "x"]
        seen = set()
        for time in range(4000):
            size = 1 + next(source) % 9
            seen.add(self.check(" ".join(words[next(source) % len(words)] for word in range(size))))
        self.assertLessEqual({None, 0, 1, 2, 3, 4, 5}, seen)

    def test_a_refusal(self):
        with self.assertRaises(RoundError):
            read_table("x")


if __name__ == "__main__":
    unittest.main()
