"""The canonical text and the list of the signs."""

import unittest

from sweeprota.formatter import format_plan, signs_of

CANONICAL = """corridor 12;
signs no red blue;
moods go halt;
robot 11 right;
robot 0 left;
robot 11 right;
put blue 2;
put red 10;
when go no leave red on halt;
when go blue leave no back go;
when halt no leave blue stay halt;
when halt red leave no on go;"""


class FormatTest(unittest.TestCase):

    def test_statements_in_another_order(self):
        text = (
            "corridor 12; signs no red blue; moods go halt; robot 11 right; "
            "when halt red leave no on go; put red 10; when go blue leave no back go; "
            "robot 0 left; when halt no leave blue stay halt; put blue 2; "
            "when go no leave red on halt; robot 11 right;"
        )
        self.assertEqual(CANONICAL, format_plan(text))

    def test_other_spaces_and_line_feeds(self):
        self.assertEqual(CANONICAL, format_plan(CANONICAL.replace(" ", "\n \n")))
        self.assertEqual(CANONICAL, format_plan(CANONICAL.replace(";\n", " ; ") + "\n\n"))
        self.assertEqual(CANONICAL, format_plan("\n" + CANONICAL.replace("\n", "")))

    def test_the_canonical_text_stays(self):
        self.assertEqual(CANONICAL, format_plan(CANONICAL))

    def test_puts_of_the_first_sign_are_left_out(self):
        text = CANONICAL.replace("put blue 2;", "put no 3; put blue 2; put no 0;")
        self.assertEqual(CANONICAL, format_plan(text))

    def test_puts_are_ascending_as_numbers(self):
        head = "corridor 16; signs a b; moods m; robot 0 left;"
        text = format_plan(head + "put b 10; put b 9; put b 2; put b 15; put b 0;")
        self.assertEqual(
            ["put b 0;", "put b 2;", "put b 9;", "put b 10;", "put b 15;"], text.split("\n")[4:]
        )

    def test_rules_are_ordered_as_in_the_plan(self):
        head = "corridor 3; signs z a; moods y b; robot 0 left;"
        text = format_plan(
            head + "when b a leave z on y; when b z leave z on y; "
            "when y a leave z on y; when y z leave z on y;"
        )
        self.assertEqual(["y z", "y a", "b z", "b a"], [row[5:8] for row in text.split("\n")[4:]])

    def test_no_puts_and_no_rules(self):
        self.assertEqual(
            "corridor 1;\nsigns a;\nmoods m;\nrobot 0 left;",
            format_plan("corridor 1;signs a;moods m;robot 0 left;"),
        )


class SignsTest(unittest.TestCase):

    def test_signs_in_their_order(self):
        self.assertEqual(["no", "red", "blue"], signs_of(CANONICAL))
        self.assertEqual(["z"], signs_of("corridor 1; signs z; moods a b; robot 0 left;"))
        self.assertEqual(["d", "b", "c", "a"], signs_of("corridor 1; signs d b c a; moods m; robot 0 left;"))

    def test_a_changed_list_has_no_effect(self):
        signs = signs_of(CANONICAL)
        self.assertIs(list, type(signs))
        signs.append("green")
        signs[0] = "yes"
        self.assertEqual(["no", "red", "blue"], signs_of(CANONICAL))
        self.assertEqual(CANONICAL, format_plan(CANONICAL))


if __name__ == "__main__":
    unittest.main()
