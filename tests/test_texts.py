import itertools
import unittest

from gridlocks import texts
from gridlocks.errors import GridError, InvalidText
from gridlocks.pairs import Pair
from gridlocks.texts import read, write
from samples import busy_programs, sample_pairs, short_programs

WORK = ("work",)
SHORT = (("take", 0), ("leave", 0))
NESTED = (("take", 0), ("take", 1), ("leave", 1), ("leave", 0))
LONGEST = tuple(("take", lock) for lock in range(4)) + (WORK,) * 4 + tuple(("leave", lock) for lock in range(4))

NO_WORDS = [
    "0", "1", "+", "-", "+4", "-4", "+9", "+-0", "++0", "+00", "+01", "0+", "-+0", "+0-0", "+a", "*",
    "..", ".0", "+0.", "work", "take", "leave", "one", "other", "+0,", "\t", "\t+0", "+0\t", ".\t.",
    "\r", ".\r", "\u00a0", ".\u00a0.", "\x0b", "+\u0660", "+\u00b2", "None", "+0\x0c-0", "\\n", "-10",
]


class TextCase(unittest.TestCase):
    def assert_invalid(self, text, line, word):
        with self.assertRaises(InvalidText) as caught:
            read(text)
        self.assertIsInstance(caught.exception, GridError)
        found = (caught.exception.line, caught.exception.word)
        self.assertEqual(found, (line, word), repr(text))
        self.assertEqual([type(number) for number in found], [int, int])

    def assert_invalid_steps(self, steps, word):
        """Check that a line with these words is refused as either line."""
        self.assert_invalid(f"one {steps}\nother", 1, word)
        self.assert_invalid(f"one {steps}\nother +0 -0", 1, word)
        self.assert_invalid(f"one\nother {steps}", 2, word)
        self.assert_invalid(f"one +0 . -0\nother {steps}", 2, word)


class WriteTest(unittest.TestCase):
    def test_example(self):
        found = write(Pair((("take", 0), WORK, ("leave", 0)), ()))
        self.assertEqual(found.split("\n"), ["one +0 . -0", "other"])

    def test_empty_programs(self):
        self.assertEqual(write(Pair((), ())), "one\nother")
        self.assertEqual(write(Pair((), SHORT)), "one\nother +0 -0")

    def test_all_steps(self):
        self.assertEqual(
            write(Pair(LONGEST, (WORK,) * 12)),
            "one +0 +1 +2 +3 . . . . -0 -1 -2 -3\nother . . . . . . . . . . . .",
        )
        self.assertIs(type(write(Pair(LONGEST, ()))), str)


class BothTest(unittest.TestCase):
    def test_what_is_written_is_read_as_an_equal_pair(self):
        pairs = sample_pairs() + [Pair(LONGEST, LONGEST), Pair((), LONGEST), Pair((WORK,) * 12, ())]
        self.assertGreater(len(pairs), 1000)
        for pair in pairs:
            found = read(write(pair))
            self.assertIsInstance(found, Pair)
            self.assertEqual(found, pair)
            self.assertEqual(write(found), write(pair))

    def test_different_pairs_have_different_texts(self):
        programs = list(short_programs()) + busy_programs()
        found = {write(Pair(one, other)) for one, other in itertools.product(programs, programs)}
        self.assertEqual(len(found), len(programs) ** 2)


class ReadTest(TextCase):
    def test_example(self):
        self.assert_invalid("one +0 -0\nother +1", 2, 3)

    def test_pairs(self):
        self.assertEqual(read("one\nother"), Pair((), ()))
        self.assertEqual(read("one +0 . -0\nother"), Pair((("take", 0), WORK, ("leave", 0)), ()))
        self.assertEqual(read("one +0 +1 -1 -0\nother ."), Pair(NESTED, (WORK,)))
        self.assertEqual(
            read("one +3 -3\nother +2 -2"),
            Pair((("take", 3), ("leave", 3)), (("take", 2), ("leave", 2))),
        )

    def test_kinds_of_values(self):
        pair = read("one +0 . -0\nother +1 -1")
        self.assertIs(type(pair), Pair)
        for program in (pair.one, pair.other):
            self.assertIs(type(program), tuple)
            for step in program:
                self.assertIs(type(step), tuple)
                self.assertEqual([type(part) for part in step], [str, int][:len(step)])

    def test_further_spaces(self):
        expected = Pair(NESTED, SHORT)
        for text in (
            "one +0 +1 -1 -0\nother +0 -0",
            "  one +0 +1 -1 -0\n other +0 -0",
            "one +0 +1 -1 -0   \nother +0 -0 ",
            "one  +0   +1 -1     -0\nother    +0  -0",
            "   one  +0   +1 -1  -0  \n   other    +0  -0      ",
        ):
            self.assertEqual(read(text), expected)
        self.assertEqual(read(" one \n  other  "), Pair((), ()))

    def test_further_spaces_do_not_count_as_words(self):
        self.assert_invalid("   one   +0   x  \nother", 1, 3)
        self.assert_invalid("  one   +0    \nother", 1, 3)
        self.assert_invalid("one\n   other   -0   ", 2, 2)

    def test_lines_without_words(self):
        for line in ("", " ", "     "):
            self.assert_invalid(line, 1, 1)
            self.assert_invalid(f"{line}\nother", 1, 1)
            self.assert_invalid(f"{line}\n{line}", 1, 1)
            self.assert_invalid(f"{line}\none\nother", 1, 1)
            self.assert_invalid(f"one\n{line}", 2, 1)
            self.assert_invalid(f"one\n{line}\nother", 2, 1)

    def test_missing_second_line(self):
        self.assert_invalid("one", 2, 1)
        self.assert_invalid("one +0 . -0", 2, 1)

    def test_third_line(self):
        for line in ("", " ", "one", "other", "third", "other +0 -0", "\n", "x\ny"):
            self.assert_invalid(f"one\nother\n{line}", 3, 1)
            self.assert_invalid(f"one +0 -0\nother +1 -1\n{line}", 3, 1)

    def test_first_word(self):
        for word in ("other", "One", "ONE", "ones", "on", "0", "+0", ".", "one+0", "one.", "one\t", "\tone", "one\r"):
            self.assert_invalid(f"{word}\nother", 1, 1)
            self.assert_invalid(f"{word} +0 -0\nother", 1, 1)
        for word in ("one", "Other", "others", "othe", "1", "-0", ".", "other+0", "other\t", "\tother"):
            self.assert_invalid(f"one\n{word}", 2, 1)
            self.assert_invalid(f"one\n{word} +0 -0", 2, 1)

    def test_lines_in_another_order(self):
        self.assert_invalid("other\none", 1, 1)
        self.assert_invalid("one\none", 2, 1)
        self.assert_invalid("other\nother", 1, 1)

    def test_words_of_no_step(self):
        for word in NO_WORDS:
            self.assert_invalid_steps(word, 2)
            self.assert_invalid_steps(f"+0 -0 {word}", 4)
            self.assert_invalid_steps(f"+0 . {word} -0", 4)
            self.assert_invalid_steps(". " * 11 + word, 13)

    def test_sign_and_lock_are_one_word(self):
        self.assert_invalid_steps("+ 0", 2)
        self.assert_invalid_steps("+0 - 0", 3)

    def test_steps_that_cannot_be_done(self):
        self.assert_invalid_steps("-0", 2)
        self.assert_invalid_steps("+0 +0 -0", 3)
        self.assert_invalid_steps("+0 -1", 3)
        self.assert_invalid_steps("+0 -0 -0", 4)
        self.assert_invalid_steps("+0 +1 . +1 -0 -1", 5)
        self.assert_invalid_steps("+3 . -2 -3", 4)

    def test_twelve_steps_and_a_thirteenth(self):
        self.assertEqual(read("one" + " ." * 12 + "\nother" + " ." * 12), Pair((WORK,) * 12, (WORK,) * 12))
        self.assertEqual(read("one" + " +2 -2" * 6 + "\nother").one, (("take", 2), ("leave", 2)) * 6)
        self.assert_invalid_steps(". " * 13, 14)
        self.assert_invalid_steps(". " * 14, 14)
        self.assert_invalid_steps("+0 -0 " * 6 + "+0", 14)
        self.assert_invalid_steps("+0 " + ". " * 11 + "-0", 14)
        self.assert_invalid_steps(". " * 40, 14)

    def test_fault_ahead_of_a_thirteenth_step(self):
        self.assert_invalid_steps("-0 " + ". " * 12, 2)
        self.assert_invalid_steps(". " * 11 + "x .", 13)
        self.assert_invalid_steps(". " * 12 + "x", 14)

    def test_lock_held_at_the_end(self):
        self.assert_invalid_steps("+0", 3)
        self.assert_invalid_steps("+0 .", 4)
        self.assert_invalid_steps("+0 +1 -0", 5)
        self.assert_invalid_steps("+0 -0 +0   ", 5)
        self.assert_invalid_steps(". " * 11 + "+3", 14)

    def test_first_of_several_faults(self):
        self.assert_invalid_steps("+0 x -1", 3)
        self.assert_invalid_steps("+0 -1 x", 3)
        self.assert_invalid_steps("x +0", 2)
        self.assert_invalid_steps("+0 +0 +4", 3)
        self.assert_invalid("two x\nother", 1, 1)
        self.assert_invalid("one\none -0", 2, 1)

    def test_faults_in_several_lines(self):
        self.assert_invalid("one x\nother x", 1, 2)
        self.assert_invalid("one +0\nother -0", 1, 3)
        self.assert_invalid("one x", 1, 2)
        self.assert_invalid("one +0", 1, 3)
        self.assert_invalid("one x\n", 1, 2)
        self.assert_invalid("one . . x\nx", 1, 4)
        self.assert_invalid("one\nother x\n", 2, 2)
        self.assert_invalid("one\nother +0\nthird", 2, 3)
        self.assert_invalid("one +0\nother\nthird", 1, 3)
        self.assert_invalid("x\ny\nz", 1, 1)


class GeneralTest(unittest.TestCase):
    def test_calls_repeat(self):
        pair = Pair(NESTED, SHORT)
        self.assertEqual([write(pair), write(pair)], ["one +0 +1 -1 -0\nother +0 -0"] * 2)
        self.assertEqual(read(write(pair)), read(write(pair)))
        self.assertEqual(pair, Pair(NESTED, SHORT))

    def test_interface_is_defined_where_it_is_listed(self):
        for function in (write, read):
            self.assertEqual(function.__module__, "gridlocks.texts")
            self.assertIs(getattr(texts, function.__name__), function)
        self.assertEqual(read(text=write(pair=Pair(SHORT, ()))), Pair(SHORT, ()))


if __name__ == "__main__":
    unittest.main()
