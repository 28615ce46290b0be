"""What several tests use: sample and random plans, wrong values, and a check for errors with attributes."""

SWEEP = (
    "corridor 3; signs no red; moods go; robot 0 right; "
    "when go no leave red on go; when go red leave no on go;"
)


class FaultCase:
    """Mixed into a test case: checks the attributes of an error."""

    def assert_fault(self, error, attributes, call, *arguments):
        with self.assertRaises(error) as caught:
            call(*arguments)
        self.assertIs(type(caught.exception), error)
        self.assertEqual(attributes, vars(caught.exception), arguments)


def counter(size, start, moods, digits):
    """A plan whose robot counts in base 3, one digit on a tile, and rests after an overflow.

    digits are the signs on the tiles 1, 2 .., between two tiles with the sign end. One pass takes
    2 * carries + 2 ticks, the last one as many ticks as there are digits.
    """
    return (
        f"corridor {size}; signs zero one two end; moods {moods}; robot {start}; "
        + puts(1, digits) + f"put end 0; put end {len(digits) + 1}; "
        "when add zero leave one back keep; when add one leave two back keep; "
        "when add two leave zero on add; "
        "when keep zero leave zero on keep; when keep end leave end back add;"
    )


def ring(digits):
    """A counter of eight digits that begins again after an overflow, in 3 ** 9 - 1 ticks.

    Before that, its robot counts upwards on the tiles 14 to 10, from these digits on, once.
    """
    return (
        "corridor 16; signs zero one two end; moods plus minus add keep; robot 14 left; "
        "put end 0; put end 9; put end 15; " + puts(10, digits) +
        "when plus zero leave one back minus; when plus one leave two back minus; "
        "when plus two leave zero on plus; when plus end leave end on keep; "
        "when minus zero leave zero on minus; when minus end leave end back plus; "
        "when add zero leave one back keep; when add one leave two back keep; "
        "when add two leave zero on add; when add end leave end back keep; "
        "when keep zero leave zero on keep; when keep end leave end back add;"
    )


# The rules of the counters below that also count from right to left, between an end and the left wall.
COUNTING = (
    "when add zero leave one back keep; when add one leave two back keep; when add two leave zero on add; "
    "when keep zero leave zero on keep; when keep end leave end back add; "
)
# Too long without any put: the robot leaves an end at the right wall, and then counts to 3 ** 15.
TOO_LONG_BARE = (
    "corridor 16; signs zero one two end; moods begin add keep; robot 15 left; "
    "when begin zero leave end on add; " + COUNTING
)
# One start of robot 0 is too long: on tile 0, to the left. From all others it rests early.
TOO_LONG_START = (
    "corridor 16; signs zero one two end; moods begin look add keep; robot 3 left; put end 0; "
    "when begin end leave end on look; when look end leave end on add; " + COUNTING
)
# Values of the kinds that may be passed although they are no number at all.
NO_NUMBERS = [True, False, None, "0", "1", "a", "", [], [0], (), (0,)]
SYNTAX_WRONG = "corridor 0; A"
CHECK_WRONG = "corridor 0; signs a; moods m; robot 0 left;"


def puts(first, digits):
    """The puts of digits on the tiles from a first one on."""
    names = ["zero", "one", "two"]
    return "".join(
        f"put {names[int(digit)]} {first + at}; " for at, digit in enumerate(digits)
    )


def random_plan(chance, sizes=(1, 2, 3, 5, 8), most_signs=4):
    """The text of a correct plan."""
    size = chance.choice(sizes)
    signs = ["a", "b", "c", "d"][:chance.randint(1, most_signs)]
    moods = ["m", "n", "a", "b", "c", "d"][:chance.randint(1, 6)]
    rows = [robot_row(chance, size) for _ in range(chance.randint(0, 2))]
    for tile in chance.sample(range(size), chance.randint(0, size)):
        rows.append(f"put {chance.choice(signs)} {tile};")
    for mood in moods:
        for sign in signs:
            if chance.random() < 0.8:
                move = chance.choice(["on", "on", "back", "stay"])
                rows.append(f"when {mood} {sign} leave {chance.choice(signs)} {move} {chance.choice(moods)};")
    chance.shuffle(rows)
    # The first of the rows must be a robot.
    rows.insert(0, robot_row(chance, size))
    return f"corridor {size}; signs {' '.join(signs)}; moods {' '.join(moods)}; " + " ".join(rows)


def robot_row(chance, size):
    return f"robot {chance.randrange(size)} {chance.choice(['left', 'right'])};"
