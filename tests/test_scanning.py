"""Points 105, 106 and 114: texts and their tokens."""

import unittest

from thenbeside.scanning import scan
from tests.texts import check_text_error, drawn_texts, tokens_of
from tests.wrong import WrongCase, deep

NOT_TEXTS = (True, False, None, 0, 1, 1.0, (), ("a",), [], ["a"], ["a", "then", "b"], {}, {"a": 0}, b"", b"a",
             b"a then b", deep(3), deep(5000), "\n", "a\n", "\na", "a then\nb", "a" * 599 + "\n", "a" * 600 + "\n",
             "a" * 601, " " * 601, "(" * 601, "a" * 10000, "3:\n", "a\r\nb", "\n" * 600, "$" * 601)

EVERY_TOKEN = ("a", "b", "c", "d", "e", "f", "g", "then", "beside", "before", "after", "(", ")", "|", ",", ":", "0",
               "12", "999999")


def kind_of(characters):
    """The kind of the token with these characters."""
    if characters in "()|,:":
        return "sign"
    if characters.isdigit():
        return "number"
    return "task" if len(characters) == 1 else "word"


class ScanTest(unittest.TestCase):
    def check_problem(self, column, words, text):
        """Check that the text has this problem."""
        check_text_error(self, column, words, scan, text)

    def test_examples(self):
        self.assertEqual(scan("a then (c beside (b))"), [
            ("task", "a", 1), ("word", "then", 3), ("sign", "(", 8), ("task", "c", 9), ("word", "beside", 11),
            ("sign", "(", 18), ("task", "b", 19), ("sign", ")", 20), ("sign", ")", 21), ("end", "", 22)])
        self.assertEqual(scan("3: a before|after b"), [
            ("number", "3", 1), ("sign", ":", 2), ("task", "a", 4), ("word", "before", 6), ("sign", "|", 12),
            ("word", "after", 13), ("task", "b", 19), ("end", "", 20)])

    def test_kinds(self):
        tokens = scan("a 1 , then")
        self.assertIsInstance(tokens, list)
        for token in tokens:
            self.assertEqual([type(item) for item in token], [str, str, int])
            self.assertIsInstance(token, tuple)

    def test_each_token_alone(self):
        for characters in EVERY_TOKEN:
            for ahead in range(3):
                for behind in range(3):
                    text = " " * ahead + characters + " " * behind
                    self.assertEqual(scan(text), [(kind_of(characters), characters, ahead + 1),
                                                  ("end", "", len(text) + 1)])

    def test_each_two_tokens(self):
        for first in EVERY_TOKEN:
            for second in EVERY_TOKEN:
                for blanks in range(3):
                    text = first + " " * blanks + second
                    if blanks or not (first[0].isalpha() and second[0].isalpha()
                                      or first[0].isdigit() and second[0].isdigit()):
                        start = len(first) + blanks + 1
                        self.assertEqual(scan(text), [(kind_of(first), first, 1), (kind_of(second), second, start),
                                                      ("end", "", len(text) + 1)])

    def test_letters_and_digits_that_touch(self):
        self.assertEqual(scan("12a3b"), [
            ("number", "12", 1), ("task", "a", 3), ("number", "3", 4), ("task", "b", 5), ("end", "", 6)])
        self.assertEqual(scan("then0beside")[1:], [("number", "0", 5), ("word", "beside", 6), ("end", "", 12)])

    def test_as_long_as_possible(self):
        for text in ("ab", "athen", "thenb", "abefore", "befores", "bef", "aa", "aftera", "besidethen", "thena b"):
            self.check_problem(1, "there is no such word", text)
        self.assertEqual(scan("123 4"), [("number", "123", 1), ("number", "4", 5), ("end", "", 6)])

    def test_drawn_texts(self):
        right = wrong = 0
        for text in drawn_texts(3000):
            expected = tokens_of(text)
            if isinstance(expected, list):
                self.assertEqual(scan(text), expected)
                right += 1
            else:
                self.check_problem(*expected, text)
                wrong += 1
        self.assertGreater(min(right, wrong), 1000)

    def test_every_character(self):
        for code in (*range(1000), 0x2028, 0x3000, 0xff10, 0xff41, 0x1d41a, 0x661):
            character = chr(code)
            if character not in " \nabcdefghijklmnopqrstuvwxyz0123456789()|,:":
                for ahead in ("", "a", " then ", "(7"):
                    self.check_problem(len(ahead) + 1, "no token begins here", ahead + character)
                    self.check_problem(len(ahead) + 1, "no token begins here", ahead + character + "zz 1234567")

    def test_other_blanks_are_no_blanks(self):
        for character in "\t\r\v\f\x00\x1c\x85\xa0\u2003\u2028\u2029\ufeff":
            self.check_problem(2, "no token begins here", f"a{character}then b")

    def test_letters_that_are_no_tasks(self):
        for letter in "hijklmnopqrstuvwxyz":
            self.check_problem(3, "there is no such word", f"a {letter} then")
        for letter in "ABCDEFGHZ":
            self.check_problem(3, "no token begins here", f"a {letter} then")
        for word in ("Then", "bEside", "tHen", "thEn"):
            column = 1 + min(at for at, letter in enumerate(word) if letter.isupper())
            if column == 1:
                self.check_problem(1, "no token begins here", word)
            else:
                # The letters ahead of the other one are a sequence of their own.
                known = word[:column - 1] in "abcdefg"
                self.check_problem(column if known else 1,
                                   "no token begins here" if known else "there is no such word", word)

    def test_digits(self):
        for many in range(1, 7):
            for digit in "0159":
                self.assertEqual(scan(digit * many), [("number", digit * many, 1), ("end", "", many + 1)])
                self.assertEqual(scan(f"{digit * many}:{digit * many}")[2], ("number", digit * many, many + 2))
        for many in (7, 8, 100, 600):
            for digit in "019":
                self.check_problem(1, "a number has at most 6 digits", digit * many)
        self.check_problem(8, "a number has at most 6 digits", "123456 1234567 12345678")
        self.check_problem(2, "a number has at most 6 digits", "a0000001a")
        for text in ("\u0661", "\u00b2", "\uff11"):
            self.check_problem(1, "no token begins here", text)
            self.check_problem(2, "no token begins here", "1" + text)

    def test_depth(self):
        self.assertEqual(len(scan("((((((")), 7)
        self.check_problem(7, "nested too deep", "(((((((")
        self.check_problem(7, "nested too deep", "((((((( $")
        self.check_problem(14, "nested too deep", "( ( ( ( ( (  ( a")
        self.assertEqual(len(scan("((((((a))))))")), 14)
        self.assertEqual(len(scan("((((((a)(b)(c)))))) () ((((((")), 28)
        self.check_problem(10, "nested too deep", "((((((a)((")
        self.check_problem(9, "nested too deep", "((((()((((((((")

    def test_closing_where_nothing_is_open_changes_nothing(self):
        for many in range(1, 9):
            text = ")" * many + "(" * 6
            self.assertEqual(len(scan(text)), many + 7)
            self.check_problem(many + 7, "nested too deep", text + "(")
            self.check_problem(many + 9, "nested too deep", "()" + text + "(")
        self.check_problem(11, "nested too deep", "(())((((((((")

    def test_first_problem_is_told(self):
        problems = (("$", "no token begins here"), ("x", "there is no such word"),
                    ("0000000", "a number has at most 6 digits"), ("(", "nested too deep"))
        for first, words in problems:
            for second, _ in problems:
                text = "(((((( " + first + " " + second
                self.check_problem(8, words, text)

    def test_lengths(self):
        self.assertEqual(scan(""), [("end", "", 1)])
        self.assertEqual(scan(" "), [("end", "", 2)])
        self.assertEqual(scan(" " * 600), [("end", "", 601)])
        self.assertEqual(len(scan(")" * 600)), 601)
        self.assertEqual(scan(" " * 599 + "g"), [("task", "g", 600), ("end", "", 601)])
        self.assertEqual(scan("then " * 120)[-2:], [("word", "then", 596), ("end", "", 601)])
        self.check_problem(600, "no token begins here", ":" * 599 + ".")
        self.check_problem(1, "there is no such word", "a" * 600)

    def test_changing_a_returned_list_changes_nothing(self):
        for text in ("", "a then b", "3: a before b"):
            first = scan(text)
            kept = list(first)
            first.append(("end", "", 0))
            first[0] = None
            self.assertEqual(scan(text), kept)
            first.clear()
            self.assertEqual(scan(text), kept)


class ScanningErrorsTest(WrongCase):
    def test_text(self):
        self.check_arguments(scan, ("text", "a then b", NOT_TEXTS))

    def test_wrong_text_comes_ahead_of_its_problems(self):
        for text in ("$\n", "zz\n", "1234567\n", "(" * 7 + "\n", "\n$", "$" + " " * 600):
            self.check_bad("text", scan, text)


if __name__ == "__main__":
    unittest.main()
