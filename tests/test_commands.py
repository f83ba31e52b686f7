"""neverlate.commands: points 129 to 132 and 134, by the words alone."""

import unittest

from neverlate.commands import is_block_line, is_command, is_number, split_words

LONGEST = "abcdefghij12"
NO_NAMES = ("", LONGEST + "3", "A", "a_b", "a-b", "\u00e9", "a\t", "\t", "Engine", "a:", "a\n", " ")
NO_NUMBERS = ("", "-1", "+1", "01", "00", "1.0", "x", "12345678", "9" * 5000, "1\t", "\u0663", "\u00b2", "1_0")
NO_HORIZONS = NO_NUMBERS + ("0", "1001", "1000000", "9999999")

COMMANDS = (
    "task engine", "table slow 1", "table slow 1 0 9999999", "ask q 30 slow", "ask q 30 slow engine",
    "ask q 30 slow engine other engine", "drop q", "remove task engine", "remove table slow", "undo", "redo",
    "answer q", "answers", "show tasks", "show tables", "show questions", "system q",
)
BLOCK_LINES = ("kind a 3 2", "way a b 9", "end")


class Words(unittest.TestCase):
    def command(self, text):
        return is_command(text.split(" "))

    def block_line(self, text):
        return is_block_line(text.split(" "))


class Point129(Words):
    def test_example(self):
        self.assertIs(is_command(split_words("  ask q  30 slow engine ")), True)

    def test_words(self):
        self.assertEqual(split_words("ask q 30"), ["ask", "q", "30"])
        self.assertEqual(split_words("ask"), ["ask"])

    def test_several_spaces(self):
        self.assertEqual(split_words("ask  q   30"), ["ask", "q", "30"])

    def test_spaces_at_both_ends(self):
        self.assertEqual(split_words(" ask q"), ["ask", "q"])
        self.assertEqual(split_words("ask q "), ["ask", "q"])
        self.assertEqual(split_words("   ask q   "), ["ask", "q"])

    def test_no_words(self):
        for line in ("", " ", "    "):
            self.assertEqual(split_words(line), [])

    def test_other_characters_belong_to_words(self):
        self.assertEqual(split_words("ask\tq 30"), ["ask\tq", "30"])
        self.assertEqual(split_words("\t"), ["\t"])
        self.assertEqual(split_words("undo\r"), ["undo\r"])
        self.assertEqual(split_words("a\u00a0b \u3000 \x0b c\x0c"), ["a\u00a0b", "\u3000", "\x0b", "c\x0c"])


class Point130(Words):
    def test_numbers(self):
        for word in ("0", "1", "9", "10", "100", "1000000", "1234567", "9999999"):
            self.assertIs(is_number(word), True)

    def test_no_numbers(self):
        for word in NO_NUMBERS + ("0000000", "0123456", "1 ", " 1"):
            self.assertIs(is_number(word), False)

    def test_horizons(self):
        for word in ("1", "9", "999", "1000"):
            self.assertIs(self.command(f"ask q {word} slow"), True)
        for word in NO_HORIZONS:
            self.assertIs(is_command(["ask", "q", word, "slow"]), False)

    def test_names(self):
        for words in (
            ["task", None], ["table", None, "1"], ["ask", None, "30", "slow"], ["ask", "q", "30", None],
            ["ask", "q", "30", "slow", None], ["ask", "q", "30", "slow", "a", None], ["drop", None],
            ["remove", "task", None], ["remove", "table", None], ["answer", None], ["system", None],
        ):
            for name in ("a", "0", "12", "engine", "task", "end", "undo", LONGEST):
                self.assertIs(is_command([name if word is None else word for word in words]), True)
            for name in NO_NAMES:
                self.assertIs(is_command([name if word is None else word for word in words]), False)


class Point131(Words):
    def test_commands(self):
        for text in COMMANDS:
            with self.subTest(text):
                self.assertIs(self.command(text), True)

    def test_a_word_too_many(self):
        for text in COMMANDS:
            if not text.startswith("ask"):
                with self.subTest(text):
                    self.assertIs(self.command(text + " x"), False)
                    self.assertIs(self.command(text + " tasks"), False)

    def test_a_word_too_few(self):
        for text in ("task", "table slow", "table", "ask q 30", "ask q", "ask", "drop", "remove task", "remove table",
                     "remove", "answer", "show", "system"):
            with self.subTest(text):
                self.assertIs(self.command(text), False)

    def test_other_first_words(self):
        for text in ("tasks engine", "Task engine", "UNDO", "kind a 3 2", "way a b 9", "end", "", "answers q", "0",
                     "set_task engine", "undo 1", "undo\t", "asks q 30 slow"):
            self.assertIs(self.command(text), False)

    def test_the_numbers_of_a_table(self):
        for word in NO_NUMBERS:
            self.assertIs(is_command(["table", "slow", word]), False)
            self.assertIs(is_command(["table", "slow", "1", word]), False)
        # How many there may be, and how great they may be, is for the table to tell.
        self.assertIs(self.command("table slow" + " 9999999" * 2000), True)

    def test_what_is_removed(self):
        for text in ("remove engine", "remove question q", "remove tasks engine", "remove Task engine"):
            self.assertIs(self.command(text), False)
        self.assertIs(self.command("remove task task"), True)

    def test_what_is_shown(self):
        for text in ("show task", "show table", "show question", "show answers", "show Tasks", "show q", "show  "):
            self.assertIs(self.command(text), False)

    def test_the_words_stay_as_they_were(self):
        words = ["ask", "q", "30", "slow", "engine"]
        is_command(words)
        is_block_line(words)
        self.assertEqual(words, ["ask", "q", "30", "slow", "engine"])


class Point132(Words):
    def test_lines_of_a_block(self):
        for text in BLOCK_LINES + ("kind a 0 9999999", "way a a 0", "kind end 1 1", "way way kind 1"):
            with self.subTest(text):
                self.assertIs(self.block_line(text), True)

    def test_a_word_too_many_and_one_too_few(self):
        for text in ("kind a 3 2 1", "way a b 9 1", "end a", "kind a 3", "way a b", "kind", "way", "kind a", "way a",
                     "end end", ""):
            with self.subTest(text):
                self.assertIs(self.block_line(text), False)

    def test_names_and_numbers(self):
        for words in (["kind", None, "3", "2"], ["way", None, "b", "9"], ["way", "a", None, "9"]):
            for name in NO_NAMES:
                self.assertIs(is_block_line([name if word is None else word for word in words]), False)
            self.assertIs(is_block_line([LONGEST if word is None else word for word in words]), True)
        for words in (["kind", "a", None, "2"], ["kind", "a", "3", None], ["way", "a", "b", None]):
            for number in NO_NUMBERS:
                self.assertIs(is_block_line([number if word is None else word for word in words]), False)
            for number in ("0", "1", "1234567"):
                self.assertIs(is_block_line([number if word is None else word for word in words]), True)

    def test_other_first_words(self):
        for text in COMMANDS + ("Kind a 3 2", "ways a b 9", "End", "kind\ta 3 2"):
            self.assertIs(self.block_line(text), False)


class Point134(Words):
    def test_no_line_is_both(self):
        for text in COMMANDS:
            self.assertIs(self.block_line(text), False)
        for text in BLOCK_LINES:
            self.assertIs(self.command(text), False)


if __name__ == "__main__":
    unittest.main()
