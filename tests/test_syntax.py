"""Characters, tokens and the grammar: SyntaxFault."""

import random
import re
import unittest

from sweeprota.errors import CheckFault, SyntaxFault
from sweeprota.formatter import format_plan, signs_of
from sweeprota.machine import find_cycle, robots_in, signs_on, trace
from tests.helpers import FaultCase

KEYWORDS = "corridor signs moods robot put when leave left right on back stay".split()
SAMPLES = KEYWORDS + ["name", "7", ";"]

TOKENS = (
    "corridor 3 ; signs no red ; moods go halt ; robot 1 left ; put red 2 ; "
    "when go red leave no on halt ; robot 0 right ;"
).split()
# The samples that fit at each place of TOKENS.
STATEMENTS = "robot put when"
FITTING = [
    "corridor", "7", ";", "signs", "name", "name ;", "name ;",
    "moods", "name", "name ;", "name ;", "robot", "7", "left right", ";",
    STATEMENTS, "name", "7", ";",
    STATEMENTS, "name", "name", "leave", "name", "on back stay", "name", ";",
    STATEMENTS, "7", "left right", ";",
]
COMPLETE = [at for at, fitting in enumerate(FITTING) if fitting == STATEMENTS] + [len(TOKENS)]


class SyntaxCase(FaultCase, unittest.TestCase):

    def assert_syntax(self, text, line, column):
        self.assert_fault(SyntaxFault, {"line": line, "column": column}, format_plan, text)

    def assert_marked(self, marked):
        """The fault is where the mark stands; the mark is no part of the text."""
        before, after = marked.split("^")
        self.assert_syntax(before + after, before.count("\n"), len(before.split("\n")[-1]))


class TokenTest(SyntaxCase):

    def test_characters_that_start_no_token(self):
        for character in "ABZ%!-_.,:'\"\\/(){}~\t\r\x00\x0b\x7f\u00e9\u00df\u00b2\u0661\u3000":
            with self.subTest(repr(character)):
                self.assert_marked(f"corridor 3; signs ^{character}; moods go; robot 0 left;")
                self.assert_marked(f"corridor 3; signs no^{character}; moods go; robot 0 left;")
                self.assert_marked(f"corridor 3; signs no;\n moods go; robot 0 left;\n ^{character}")

    def test_line_separators_are_no_line_feeds(self):
        for character in "\r\x0b\x0c\x1c\x85\u2028":
            self.assert_marked(f"corridor 3;^{character}signs no; moods go; robot 0 left;")

    def test_words_of_eight_letters(self):
        text = "corridor 3;\nsigns abcdefgh;\nmoods ijklmnop qrstuvwx yzaaaaaa;\nrobot 0 left;"
        self.assertEqual(text, format_plan(text))

    def test_words_of_nine_letters(self):
        self.assert_marked("corridor 3; signs ^abcdefghi; moods go; robot 0 left;")
        self.assert_marked("^corridors 3; signs no; moods go; robot 0 left;")
        self.assert_marked("^corridorcorridor 3; signs no; moods go; robot 0 left;")
        self.assert_marked("corridor 3; signs no;\nmoods go; robot 0 left;\n  ^moodsmoods")

    def test_numbers(self):
        for number in ["0", "1", "9", "10", "16", "99"]:
            with self.subTest(number):
                with self.assertRaises(CheckFault):
                    format_plan(f"corridor 1; signs no; moods go; robot 0 left; put no {number}; robot 9 left;")

    def test_invalid_numbers(self):
        for number in ["00", "01", "09", "000", "010", "100", "999", "1000", "1" * 5000]:
            with self.subTest(number[:9]):
                self.assert_marked(f"corridor ^{number}; signs no; moods go; robot 0 left;")
                self.assert_marked(f"corridor 1; signs no; moods go;\nrobot ^{number} left;")

    def test_invalid_tokens_come_before_the_grammar(self):
        for bad in ["A", "%", "abcdefghi", "00", "123"]:
            with self.subTest(bad):
                self.assert_marked(f"corridor corridor; signs; moods go; robot 0 left; ^{bad}")
                self.assert_marked(f"3 ; left\n\n ;;^{bad}")
                self.assert_marked(f"corridor 3; signs no; moods go; robot\n^{bad}")

    def test_the_first_of_several_invalid_tokens(self):
        self.assert_marked("corridor ^007; signs abcdefghij; Moods")
        self.assert_marked("corridor 7;\nsigns ^abcdefghij; Moods 007")

    def test_tokens_are_as_long_as_possible(self):
        self.assert_marked("corridor3;signs ^on;moods go;robot0left;")
        self.assert_marked("corridor3;^signsno;moods go;robot0left;")
        self.assert_marked("corridor 3;signs no;moods go;robot 0 ^leftleft;")

    def test_text_without_spaces(self):
        self.assertEqual(
            "corridor 10;\nsigns no red;\nmoods go;\nrobot 0 left;\nput red 2;\n"
            "when go no leave red back go;",
            format_plan("corridor10;signs no red;moods go;robot0left;put red2;when go no leave red back go;"),
        )

    def test_spaces_and_line_feeds_anywhere(self):
        text = "\n\n  corridor\n 3 \n;\n\nsigns\nno\n ;moods   go\n;robot\n0\nleft\n;\n \n"
        self.assertEqual("corridor 3;\nsigns no;\nmoods go;\nrobot 0 left;", format_plan(text))

    def test_names_that_begin_like_keywords(self):
        text = "corridor 3;\nsigns o lefty onon;\nmoods a sta name number;\nrobot 0 left;"
        self.assertEqual(text, format_plan(text))

    def test_random_texts(self):
        chance = random.Random(2)
        pieces = ["a", "bc", "abcdefg", "corridor", "on", "0", "1", "12", ";", " ", "\n", "A"]
        for _ in range(3000):
            text = "".join(chance.choices(pieces, k=chance.randrange(9)))
            bad = first_invalid(text)
            if bad is not None:
                before = text[:bad]
                self.assert_syntax(text, before.count("\n"), bad - before.rfind("\n") - 1)


def first_invalid(text):
    """Where the first invalid token begins, or None."""
    for found in re.finditer(r"[a-z]+|[0-9]+|[^ \n]", text):
        if not re.fullmatch(r"[a-z]{1,8}|0|[1-9][0-9]?|;", found.group()):
            return found.start()
    return None


class GrammarTest(SyntaxCase):

    def test_all_of_it_fits(self):
        for glue in [" ", "\n", " \n "]:
            self.assertEqual(["no", "red"], signs_of(glue.join(TOKENS)))

    def test_the_first_token_that_does_not_fit(self):
        for at, fitting in enumerate(FITTING + [STATEMENTS]):
            for sample in SAMPLES:
                if sample not in fitting.split():
                    with self.subTest(at=at, sample=sample):
                        before = " ".join(TOKENS[:at] + ["^"])
                        self.assert_marked(" ".join([before + sample] + TOKENS[at + 1:]))
                        self.assert_marked(before.replace(" ", "\n") + sample + "\n;")

    def test_the_tokens_that_fit(self):
        for at, fitting in enumerate(FITTING):
            for sample in fitting.split():
                with self.subTest(at=at, sample=sample):
                    text = " ".join(TOKENS[:at] + [sample])
                    if at + 1 in COMPLETE:
                        format_plan(text)
                    else:
                        self.assert_syntax(text, 1, 0)

    def test_plans_that_end_too_early(self):
        for count in range(len(TOKENS) + 1):
            text = " ".join(TOKENS[:count])
            for end, lines in [("", 1), ("\n", 2), (" \n\n ", 3), ("  ", 1)]:
                with self.subTest(text=text + end):
                    if count in COMPLETE:
                        signs_of(text + end)
                    else:
                        self.assert_syntax(text + end, lines, 0)

    def test_the_empty_text(self):
        self.assert_syntax("", 1, 0)
        self.assert_syntax(" ", 1, 0)
        self.assert_syntax("\n", 2, 0)
        self.assert_syntax("\n\n \n", 4, 0)

    def test_a_plan_that_ends_in_a_later_line(self):
        self.assert_syntax("corridor 3;\nsigns no;\nmoods go;", 3, 0)
        self.assert_syntax("corridor 3;\nsigns no;\nmoods go;\nrobot 0 left", 4, 0)

    def test_the_robot_comes_first(self):
        self.assert_marked("corridor 3; signs no; moods go; ^put no 1; robot 0 left;")
        self.assert_marked("corridor 3; signs no; moods go; ^when go no leave no on go; robot 0 left;")

    def test_each_heading_once(self):
        for statement in ["corridor 3;", "signs no;", "moods go;", ";"]:
            self.assert_marked(f"corridor 3; signs no; moods go; robot 0 left; ^{statement}")

    def test_syntax_comes_before_checks(self):
        self.assert_marked("corridor 0; signs no no; moods go; robot 99 left; put no ^no;")

    def test_many_statements(self):
        rules = "when a b leave c stay d;\n" * 5000
        self.assert_marked(f"corridor 3; signs no; moods go; robot 0 left;\n{rules}^signs")

    def test_all_functions(self):
        calls = [
            signs_of, find_cycle, lambda text: signs_on(text, 0), lambda text: robots_in(text, 0),
            lambda text: list(trace(text, 0, 0)),
        ]
        for call in calls:
            self.assert_fault(SyntaxFault, {"line": 0, "column": 17}, call, "corridor 3; signs;")
            self.assert_fault(SyntaxFault, {"line": 1, "column": 0}, call, "")
            self.assert_fault(SyntaxFault, {"line": 0, "column": 0}, call, "A")

    def test_values_that_are_no_text(self):
        for value in [None, True, False, 0, 7, [], [" ".join(TOKENS)], (), ("corridor", 3)]:
            for call in [format_plan, signs_of, find_cycle]:
                self.assert_fault(SyntaxFault, {"line": 0, "column": 0}, call, value)


if __name__ == "__main__":
    unittest.main()
