"""Plans as lists of bytes."""

import random
import unittest

from sweeprota.encoding import decode, encode
from sweeprota.errors import CheckFault, InvalidCode, SyntaxFault
from sweeprota.formatter import format_plan
from tests.helpers import CHECK_WRONG, SWEEP, SYNTAX_WRONG, TOO_LONG_BARE, FaultCase, random_plan

KEYWORDS = "corridor signs moods robot put when leave left right on back stay".split()
FULL = (
    "corridor 3; signs no red a; moods go z; robot 2 right; robot 0 left; "
    "when z a leave no stay go; put red 2; when go red leave a back z; put no 0; when go no leave red on go; put a 1;"
)
# In each line: the tiles, the signs, the moods, the robots, the signs on the tiles, the rules, the checksum.
FULL_CODE = [
    82, 3,
    3, 2, 13, 14, 3, 17, 4, 3, 1, 0,
    2, 2, 6, 14, 1, 25,
    2, 2, 1, 0, 0,
    0, 2, 1,
    3, 0, 0, 1, 0, 0, 0, 1, 2, 1, 1, 1, 2, 0, 2, 0,
    217,
]
SMALL = "corridor 1; signs a; moods a; robot 0 left;"
SMALL_CODE = [82, 1, 1, 1, 0, 1, 1, 0, 1, 0, 0, 0, 0, 88]
# What is no byte in any place.
NO_BYTES = [-1, 256, -82, 10 ** 18, True, False, None, "", "a", "0", (), (0,), [], [0]]


def names_of(letter, count, length):
    """So many names of this length."""
    return [letter * (length - 1) + "abcdef"[number] for number in range(count)]


def full_plan(size, many_signs, many_moods, many_robots, length=8):
    """A plan with a put for each tile and all rules, in an order from the last to the first one."""
    signs, moods = names_of("y", many_signs, length), names_of("z", many_moods, length)
    rows = [f"put {signs[tile - size]} {tile};" for tile in range(size - 1, size - 1 - min(size, many_signs), -1)]
    rows += [
        f"when {mood} {sign} leave {signs[-1]} {'on back stay'.split()[number % 3]} {moods[number % many_moods]};"
        for number, mood in enumerate(reversed(moods)) for sign in reversed(signs)
    ]
    robots = " ".join(f"robot {size - 1} {side};" for side in ["right", "left", "right"][:many_robots])
    head = f"corridor {size}; signs {' '.join(signs)}; moods {' '.join(moods)}; "
    return head + robots + " ".join(rows)


def ranges(code):
    """The lowest and the highest value in each place of a correct list, with the bytes before it."""
    many = {}
    rows = [(82, 82), (1, 16)]

    def names(most):
        many[most] = code[len(rows)]
        rows.append((1, most))
        for _ in range(many[most]):
            length = code[len(rows)]
            rows.extend([(1, 8)] + [(0, 25)] * length)

    names(4)
    names(6)
    robots = code[len(rows)]
    rows.append((1, 3))
    rows.extend([(0, code[1] - 1), (0, 1)] * robots)
    rows.extend([(0, many[4] - 1)] * code[1])
    rules = code[len(rows)]
    rows.append((0, many[4] * many[6]))
    earlier = -1
    for _ in range(rules):
        mood, sign = code[len(rows):len(rows) + 2]
        rows.append(((earlier + 1) // many[4], many[6] - 1))
        rows.append((max(0, earlier + 1 - mood * many[4]), many[4] - 1))
        rows.extend([(0, many[4] - 1), (0, 2), (0, many[6] - 1)])
        earlier = mood * many[4] + sign
    checksum = sum(code[:-1]) % 256
    return rows + [(checksum, checksum)]


def name_ends(code):
    """The places of the last letters of all names of a correct list."""
    ends = []
    at = 2
    for _ in range(2):
        count = code[at]
        for _ in range(count):
            ends.append(at + 1 + code[at + 1])
            at = ends[-1]
        at += 1
    return ends


def place_of(code):
    """The place of the error, or None if there is none."""
    try:
        decode(code)
    except InvalidCode as error:
        return error.place
    return None


def summed(code):
    """A list with its checksum behind it."""
    return code + [sum(code) % 256]


def changed(code, place, *values):
    """A list with other values from a place on, and with the checksum of that."""
    return summed(code[:place] + list(values) + code[place + len(values):-1])


class EncodeTest(FaultCase, unittest.TestCase):

    def test_all_parts(self):
        self.assertEqual(FULL_CODE, encode(FULL))
        self.assertEqual(SMALL_CODE, encode(SMALL))
        self.assertEqual(summed(FULL_CODE[:-1]), FULL_CODE)

    def test_a_checksum_above_255(self):
        code = encode("corridor 2; signs zz zy; moods zzz; robot 0 left;")
        self.assertEqual(269, sum(code[:-1]))
        self.assertEqual(13, code[-1])
        # The sum 256 is among them, with the checksum 0.
        totals = []
        for size in range(1, 17):
            code = encode(f"corridor {size}; signs zzzzz; moods zb; robot 0 left;")
            totals.append(sum(code[:-1]))
            self.assertEqual(totals[-1] % 256, code[-1])
        self.assertIn(256, totals)

    def test_the_largest_plan(self):
        plan = full_plan(16, 4, 6, 3)
        code = encode(plan)
        self.assertEqual(2 + 37 + 55 + 7 + 16 + 121 + 1, len(code))
        self.assertGreater(sum(code[:-1]), 1000)
        self.assertEqual([(code[at], code[at + 1]) for at in range(118, 238, 5)],
                         [(mood, sign) for mood in range(6) for sign in range(4)])
        self.assertEqual(format_plan(plan), decode(code))

    def test_puts_of_the_first_sign(self):
        plan = "corridor 2; signs a b; moods m; robot 0 left;"
        self.assertEqual(encode(plan), encode(plan + "put a 1; put a 0;"))
        self.assertEqual([0, 1], encode(plan + "put b 1;")[-4:-2])

    def test_the_same_plan_in_other_words(self):
        self.assertEqual(FULL_CODE, encode(format_plan(FULL)))
        self.assertEqual(FULL_CODE, encode(FULL.replace(";", "\n;\n")))

    def test_plans_that_do_not_repeat_early(self):
        self.assertEqual(format_plan(TOO_LONG_BARE), decode(encode(TOO_LONG_BARE)))

    def test_errors(self):
        for plan in [SYNTAX_WRONG, "", None, True, 82, [82], ()]:
            self.assertRaises(SyntaxFault, encode, plan)
        self.assert_fault(CheckFault, {"reason": "corridor", "line": 0, "column": 9}, encode, CHECK_WRONG)

    def test_new_lists(self):
        for _ in range(2):
            code = encode(FULL)
            self.assertEqual(FULL_CODE, code)
            self.assertTrue(all(type(byte) is int for byte in code))
            code.clear()


class DecodeTest(unittest.TestCase):

    def test_the_canonical_text(self):
        self.assertEqual(format_plan(FULL), decode(FULL_CODE))
        self.assertEqual("corridor 1;\nsigns a;\nmoods a;\nrobot 0 left;", decode(SMALL_CODE))

    def test_all_numbers_of_parts(self):
        for many_signs in range(1, 5):
            for many_moods in range(1, 7):
                for many_robots in range(1, 4):
                    for size, length in [(1, 1), (5, 3), (16, 8)]:
                        plan = full_plan(size, many_signs, many_moods, many_robots, length)
                        self.assertEqual(format_plan(plan), decode(encode(plan)))

    def test_all_numbers_of_rules(self):
        head, *rules = full_plan(4, 4, 6, 1).split("when")
        for count in range(25):
            plan = head + "".join("when" + rule for rule in rules[:count])
            self.assertEqual(format_plan(plan), decode(encode(plan)))

    def test_random_plans(self):
        chance = random.Random(41)
        for _ in range(300):
            plan = random_plan(chance)
            with self.subTest(plan):
                self.assertEqual(format_plan(plan), decode(encode(plan)))
                self.assertEqual(encode(plan), encode(decode(encode(plan))))

    def test_a_name_that_is_a_sign_and_a_mood(self):
        plan = "corridor 1; signs go a; moods a go; robot 0 left; when go a leave go on a;"
        self.assertEqual(format_plan(plan), decode(encode(plan)))

    def test_letters_and_lengths(self):
        for names in ["abcdefgh ijklmnop qrstuvwx yz", "z", "onn ona o no", "stays lef"]:
            plan = f"corridor 1; signs {names}; moods {names}; robot 0 left;"
            self.assertEqual(format_plan(plan), decode(encode(plan)))

    def test_the_argument_stays(self):
        for code in [list(FULL_CODE), FULL_CODE[:-1], FULL_CODE + [0], [82, 17], [None]]:
            copy = list(code)
            results = [place_of(code), place_of(code)]
            self.assertEqual(copy, code)
            self.assertEqual(results[0], results[1])


class InvalidCodeTest(FaultCase, unittest.TestCase):

    def setUp(self):
        self.codes = [FULL_CODE, SMALL_CODE, encode(SWEEP), encode(full_plan(3, 4, 6, 3, 2))]

    def assert_place(self, place, code):
        self.assert_fault(InvalidCode, {"place": place}, decode, code)

    def test_no_list(self):
        for code in [None, True, 0, 82, "", "a", "R", tuple(FULL_CODE), (), bytes(FULL_CODE), b""]:
            self.assert_place(0, code)

    def test_cut_at_each_place(self):
        for code in self.codes:
            for place in range(len(code)):
                self.assert_place(place, code[:place])

    def test_bytes_too_many(self):
        for code in self.codes:
            for more in [0, 82, code[-1]] + NO_BYTES:
                self.assert_place(len(code), code + [more])
                self.assert_place(len(code), code + [more, 0])

    def test_no_bytes_in_each_place(self):
        for code in self.codes:
            for place in range(len(code)):
                for wrong in NO_BYTES:
                    self.assert_place(place, code[:place] + [wrong] + code[place + 1:])

    def test_out_of_range_in_each_place(self):
        for code in self.codes:
            limits = ranges(code)
            self.assertEqual(len(code), len(limits))
            for place, (low, high) in enumerate(limits):
                self.assertTrue(low <= code[place] <= high)
                for wrong in [low - 1, high + 1, 0 if low else 255, 255]:
                    self.assert_place(place, code[:place] + [wrong] + code[place + 1:])
                    # It is noticed although nothing, or something wrong, stands behind it.
                    self.assert_place(place, code[:place] + [wrong])
                    self.assert_place(place, code[:place] + [wrong, None])

    def test_the_limits_of_each_place_are_accepted(self):
        for code in self.codes:
            ends = name_ends(code)
            for place, (low, high) in enumerate(ranges(code)[:-1]):
                # A name that ends there might come twice then.
                for byte in [low, high] if place not in ends else []:
                    self.assert_place(place + 1, code[:place] + [byte])

    def test_the_first_of_several_errors(self):
        self.assert_place(0, [83, 17, 0])
        self.assert_place(1, [82, 17, None])
        self.assert_place(2, [82, 16, 5])
        self.assert_place(0, [None, 17])


class InvalidNameTest(FaultCase, unittest.TestCase):
    """Names that are keywords, or that come twice: the place is that of their length."""

    def assert_place(self, place, code):
        self.assert_fault(InvalidCode, {"place": place}, decode, code)

    def name(self, word):
        return [len(word)] + [ord(letter) - ord("a") for letter in word]

    def test_keywords(self):
        for word in KEYWORDS:
            # Behind the name stands something wrong, or nothing.
            for behind in [[], [None], [0], [255]]:
                self.assert_place(3, [82, 1, 1] + self.name(word) + behind)
                self.assert_place(5, [82, 1, 2] + self.name("a") + self.name(word) + behind)
                self.assert_place(6, [82, 1, 1] + self.name("a") + [1] + self.name(word) + behind)

    def test_an_error_within_the_name_comes_first(self):
        for word in KEYWORDS:
            bytes_of = [82, 1, 1] + self.name(word)
            for place in range(3, len(bytes_of)):
                self.assert_place(place, bytes_of[:place])
                self.assert_place(place, bytes_of[:place] + [26] + bytes_of[place + 1:])

    def test_names_that_come_twice(self):
        head = [82, 1, 3] + self.name("ab") + self.name("c")
        self.assert_place(8, head + self.name("ab"))
        self.assert_place(8, head + self.name("c"))
        self.assert_place(8, [82, 1, 4] + head[3:] + self.name("ab") + self.name("c"))
        self.assert_place(9, head + [2, 27, 1])
        self.assert_place(10, head + [2, 0])
        moods = head + self.name("d") + [3] + self.name("x") + self.name("yz")
        self.assert_place(len(moods), moods + self.name("yz"))
        self.assert_place(len(moods), moods + self.name("x"))
        # A mood may have the name of a sign.
        self.assert_place(len(moods) + 3, moods + self.name("ab"))

    def test_words_like_keywords(self):
        for word in ["o", "onn", "o", "lef", "rightt", "stays", "corrido"]:
            self.assert_place(4 + len(word), [82, 1, 1] + self.name(word))


class InvalidRuleTest(FaultCase, unittest.TestCase):
    """Rules of two moods and two signs: each of them is (mood, sign, new sign, move, new mood)."""

    HEAD = [82, 1, 2, 1, 0, 1, 1, 2, 1, 0, 1, 1, 1, 0, 0, 0]

    def code(self, *pairs):
        rules = [byte for pair in pairs for byte in [*pair, 1, 2, 1]]
        return summed(self.HEAD + [len(pairs)] + rules)

    def assert_place(self, place, *pairs):
        self.assert_fault(InvalidCode, {"place": place}, decode, self.code(*pairs))

    def test_all_orders_of_two(self):
        pairs = [(mood, sign) for mood in range(2) for sign in range(2)]
        for one in pairs:
            for two in pairs:
                if one < two:
                    self.assertIn("when", decode(self.code(one, two)))
                elif one[0] > two[0] or one[1] == 1:
                    # The mood is too low, because the earlier rule has a higher one, or the last sign.
                    self.assert_place(22, one, two)
                else:
                    self.assert_place(23, one, two)

    def test_the_last_rule_comes_first(self):
        # No mood is allowed behind it.
        for mood in range(256):
            code = self.HEAD + [2, 1, 1, 1, 2, 1, mood]
            self.assert_fault(InvalidCode, {"place": 22}, decode, code)
        self.assert_fault(InvalidCode, {"place": 22}, decode, code[:-1])

    def test_later_rules(self):
        self.assert_place(27, (0, 0), (0, 1), (0, 1))
        self.assert_place(27, (0, 0), (1, 0), (0, 1))
        self.assert_place(28, (0, 1), (1, 0), (1, 0))
        self.assert_place(32, (0, 0), (0, 1), (1, 1), (1, 1))
        self.assertEqual(4, decode(self.code((0, 0), (0, 1), (1, 0), (1, 1))).count("when"))

    def test_too_many_rules(self):
        self.assert_place(16, (0, 0), (0, 1), (1, 0), (1, 1), (1, 1))

    def test_rules_of_one_sign(self):
        head = [82, 1, 1, 1, 0, 2, 1, 0, 1, 1, 1, 0, 0, 0]
        good = summed(head + [2, 0, 0, 0, 0, 0, 1, 0, 0, 0, 0])
        self.assertEqual(2, decode(good).count("when"))
        for first in [0, 1]:
            code = summed(head + [2, first, 0, 0, 0, 0, first, 0, 0, 0, 0])
            self.assert_fault(InvalidCode, {"place": 20}, decode, code)


class ChecksumTest(FaultCase, unittest.TestCase):

    def test_each_wrong_checksum(self):
        for plan in [FULL, full_plan(16, 4, 6, 3)]:
            code = encode(plan)
            for byte in range(256):
                if byte == code[-1]:
                    self.assertEqual(format_plan(plan), decode(code[:-1] + [byte]))
                else:
                    self.assert_fault(InvalidCode, {"place": len(code) - 1}, decode, code[:-1] + [byte])

    def test_the_sum_itself(self):
        code = encode(full_plan(16, 4, 6, 3))
        self.assert_fault(InvalidCode, {"place": len(code) - 1}, decode, code[:-1] + [sum(code[:-1])])
        self.assert_fault(InvalidCode, {"place": len(code) - 1}, decode, code[:-1] + [256 + code[-1]])


class ChangedBytesTest(unittest.TestCase):

    def test_each_list_that_is_accepted_is_that_of_its_plan(self):
        chance = random.Random(43)
        accepted = 0
        for _ in range(300):
            code = encode(random_plan(chance))
            for _ in range(20):
                other = changed(code, chance.randrange(len(code) - 1), chance.randrange(8))
                place = place_of(other)
                if place is None:
                    accepted += 1
                    self.assertEqual(other, encode(decode(other)))
                else:
                    self.check_place(other, place)
        self.assertGreater(accepted, 1000)

    def check_place(self, code, place):
        """All before the place of an error is right, so that only this place is missing there."""
        self.assertLess(place, len(code))
        self.assertEqual(place, place_of(code[:place]))
        self.assertLessEqual(place, place_of(code[:place + 1]))

    def test_each_byte_replaced_by_all_others(self):
        for place in range(len(FULL_CODE) - 1):
            for byte in range(30):
                other = changed(FULL_CODE, place, byte)
                if place_of(other) is None:
                    self.assertEqual(other, encode(decode(other)))
                else:
                    self.check_place(other, place_of(other))


if __name__ == "__main__":
    unittest.main()
