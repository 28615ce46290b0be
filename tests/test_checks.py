"""CheckFault, by its reasons."""

import unittest

from sweeprota.errors import CheckFault
from sweeprota.formatter import format_plan, signs_of
from sweeprota.machine import find_cycle, robots_in, signs_on, trace
from tests.helpers import FaultCase

HEAD = "corridor 5; signs a b; moods m n; robot 0 left; "


class CheckCase(FaultCase, unittest.TestCase):

    def assert_check(self, reason, marked, call=format_plan):
        """The fault is where the mark stands; the mark is no part of the text."""
        before, after = marked.split("^")
        line = before.count("\n")
        column = len(before.split("\n")[-1])
        attributes = {"reason": reason, "line": line, "column": column}
        self.assert_fault(CheckFault, attributes, call, before + after)


class ReasonTest(CheckCase):

    def test_corridor(self):
        for number in [0, 17, 18, 99]:
            self.assert_check("corridor", f"corridor ^{number}; signs a; moods m; robot 0 left;")

    def test_corridors_without_fault(self):
        for number in range(1, 17):
            text = f"corridor {number};\nsigns a;\nmoods m;\nrobot {number - 1} left;"
            self.assertEqual(text, format_plan(text))

    def test_duplicate(self):
        self.assert_check("duplicate", "corridor 5; signs a ^a; moods m; robot 0 left;")
        self.assert_check("duplicate", "corridor 5; signs a b c ^b a; moods m; robot 0 left;")
        self.assert_check("duplicate", "corridor 5; signs a; moods m n\n o ^m; robot 0 left;")
        self.assert_check("duplicate", "corridor 5; signs a; moods m ^m; robot 0 left;")

    def test_duplicate_behind_the_greatest_number(self):
        self.assert_check("duplicate", "corridor 5; signs a b c d ^a; moods m; robot 0 left;")
        self.assert_check("duplicate", "corridor 5; signs a b c d ^d e; moods m; robot 0 left;")
        self.assert_check("duplicate", "corridor 5; signs a; moods m n o p q r ^o; robot 0 left;")

    def test_signs(self):
        self.assert_check("signs", "corridor 5; signs a b c d ^e; moods m; robot 0 left;")
        self.assert_check("signs", "corridor 5; signs a b c d ^e e a f; moods m; robot 0 left;")

    def test_moods(self):
        self.assert_check("moods", "corridor 5; signs a; moods m n o p q r ^s; robot 0 left;")
        self.assert_check("moods", "corridor 5; signs a b c d; moods m n o p q r ^s s m; robot 0 left;")

    def test_four_signs_and_six_moods(self):
        text = "corridor 5;\nsigns a b c d;\nmoods m n o p q r;\nrobot 0 left;\nwhen r d leave d stay r;"
        self.assertEqual(text, format_plan(text))

    def test_a_name_that_is_both(self):
        text = "corridor 5;\nsigns a m;\nmoods m a;\nrobot 0 left;\nput m 1;\nwhen a m leave a on m;"
        self.assertEqual(text, format_plan(text))

    def test_robots(self):
        self.assert_check("robots", HEAD + "robot 1 left; robot 2 left; ^robot 3 left;")
        self.assert_check("robots", HEAD + "robot 1 left; put b 1; robot 0 left;\n ^robot 99 left;")

    def test_three_robots(self):
        text = "corridor 5;\nsigns a;\nmoods m;\nrobot 0 left;\nrobot 0 left;\nrobot 4 right;"
        self.assertEqual(text, format_plan(text))

    def test_tile(self):
        for size, number in [(1, 1), (5, 5), (5, 6), (5, 99), (16, 16)]:
            head = f"corridor {size}; signs a b; moods m; robot "
            self.assert_check("tile", head + f"^{number} left;")
            self.assert_check("tile", head + f"0 left; robot ^{number} left;")
            self.assert_check("tile", head + f"0 left;\nput b ^{number};")

    def test_unknown_sign(self):
        self.assert_check("unknown", HEAD + "put ^c 0;")
        self.assert_check("unknown", HEAD + "put ^m 0;")
        self.assert_check("unknown", HEAD + "when m ^c leave a on m;")
        self.assert_check("unknown", HEAD + "when m ^n leave a on m;")
        self.assert_check("unknown", HEAD + "when m a leave ^c on m;")
        self.assert_check("unknown", HEAD + "when m a leave ^m on m;")

    def test_unknown_mood(self):
        self.assert_check("unknown", HEAD + "when ^o a leave a on m;")
        self.assert_check("unknown", HEAD + "when ^a a leave a on m;")
        self.assert_check("unknown", HEAD + "when m a leave a on ^o;")
        self.assert_check("unknown", HEAD + "when m a leave a on ^b;")

    def test_again(self):
        self.assert_check("again", HEAD + "put b 1; put a ^1;")
        self.assert_check("again", HEAD + "put a 1; put b 2; put a ^1; put a 2;")
        self.assert_check("again", HEAD + "put a 0;\nput a\n ^0;")

    def test_a_robot_is_no_put(self):
        self.assertIn("put b 0;", format_plan(HEAD + "put b 0; robot 0 left;"))

    def test_twice(self):
        rule = "when m a leave a on m; "
        self.assert_check("twice", HEAD + rule + "^" + rule)
        self.assert_check("twice", HEAD + rule + "^when m a leave b back n;")
        self.assert_check("twice", HEAD + rule + "when m b leave b on m; put b 1;\n^" + rule)

    def test_other_rules_with_the_same_names(self):
        text = "corridor 5; signs a m; moods m a; robot 0 left; when m a leave a on m; when a m leave a on m;"
        self.assertEqual(2, format_plan(text).count("when"))


class OrderTest(CheckCase):

    def test_the_first_in_the_text_counts(self):
        self.assert_check("corridor", "corridor ^0; signs a a; moods m m; robot 9 left; put c 9;")
        self.assert_check("corridor", "corridor ^17; signs a; moods m; robot 16 left;")
        self.assert_check("duplicate", "corridor 5; signs a ^a; moods m m; robot 9 left;")
        self.assert_check("moods", "corridor 5; signs a; moods m n o p q r ^s; robot 9 left; put c 0;")
        self.assert_check("tile", "corridor 5; signs a; moods m; robot ^9 left; put c 0;")
        self.assert_check("again", HEAD + "put b 1; put b ^1; put c 1;")

    def test_the_first_in_a_statement_counts(self):
        self.assert_check("unknown", HEAD + "put ^c 9;")
        self.assert_check("unknown", HEAD + "put a 1; put ^c 1;")
        self.assert_check("unknown", HEAD + "when ^o c leave d on p;")
        self.assert_check("unknown", HEAD + "when m ^c leave d on p;")
        self.assert_check("unknown", HEAD + "when m a leave ^d on p;")
        self.assert_check("robots", HEAD + "robot 1 left; robot 2 left; ^robot 9 left;")

    def test_twice_comes_before_the_names_behind_it(self):
        self.assert_check("twice", HEAD + "when m a leave a on m; ^when m a leave c on o;")

    def test_an_unknown_name_comes_before_its_repetition(self):
        self.assert_check("unknown", HEAD + "when ^o a leave a on m; when o a leave a on m;")
        self.assert_check("unknown", HEAD + "when m a leave ^c on m; when m a leave a on m;")

    def test_a_wrong_tile_comes_before_its_repetition(self):
        self.assert_check("tile", HEAD + "put b ^9; put b 9;")

    def test_rules_of_a_sign_or_a_mood_too_many(self):
        rule = "when m e leave a on m;"
        self.assert_check("signs", "corridor 5; signs a b c d ^e; moods m; robot 0 left; " + rule)
        rule = "when s a leave a on m;"
        self.assert_check("moods", "corridor 5; signs a; moods m n o p q r ^s; robot 0 left; " + rule)

    def test_all_functions(self):
        calls = [
            signs_of, find_cycle, lambda text: signs_on(text, 0), lambda text: robots_in(text, 0),
            lambda text: list(trace(text, 0, 0)),
        ]
        for call in calls:
            self.assert_check("corridor", "corridor ^0; signs a; moods m; robot 0 left;", call)
            self.assert_check("twice", HEAD + "when m a leave a on m; ^when m a leave a on m;", call)


if __name__ == "__main__":
    unittest.main()
