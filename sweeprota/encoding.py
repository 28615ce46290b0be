"""Writes a plan as a list of bytes, and reads it again."""

from sweeprota.errors import InvalidCode
from sweeprota.formatter import canonical_text
from sweeprota.lexer import KEYWORDS, LETTERS, LONGEST_WORD
from sweeprota.plans import MOST_MOODS, MOST_ROBOTS, MOST_SIGNS, MOST_TILES, MOVES, SIDES, Plan, read_plan
from sweeprota.ticks import is_integer

MARK = 82
BYTES = 256


class ByteReader:
    """Takes the bytes of a list one after another; place is that of the next one."""

    def __init__(self, code):
        self.code = code
        self.place = 0

    def take(self, lowest, highest):
        """Returns the next byte, which must be there and be an integer from lowest to highest."""
        if self.place == len(self.code):
            raise InvalidCode(self.place)
        byte = self.code[self.place]
        if not is_integer(byte) or not lowest <= byte <= highest:
            raise InvalidCode(self.place)
        self.place += 1
        return byte

    def end(self):
        """Raises InvalidCode if there is one more byte."""
        if self.place < len(self.code):
            raise InvalidCode(self.place)


def encode(plan):
    """Returns the list of the bytes of a plan."""
    checked = read_plan(plan)
    code = [MARK, checked.size]
    code.extend(names_code(checked.signs))
    code.extend(names_code(checked.moods))
    code.append(len(checked.robots))
    for tile, side in checked.robots:
        code.extend([tile, side])
    code.extend([checked.puts.get(tile, 0) for tile in range(checked.size)])
    code.append(len(checked.rules))
    for mood, sign in sorted(checked.rules):
        new_sign, move, new_mood = checked.rules[(mood, sign)]
        code.extend([mood, sign, new_sign, move, new_mood])
    code.append(sum(code) % BYTES)
    return code


def names_code(names):
    """Returns the bytes of a list of names."""
    code = [len(names)]
    for name in names:
        code.append(len(name))
        code.extend([LETTERS.index(letter) for letter in name])
    return code


def decode(code):
    """Returns the canonical text of the plan of a list of bytes; raises InvalidCode."""
    if not isinstance(code, list):
        raise InvalidCode(0)
    reader = ByteReader(code)
    plan = Plan()
    reader.take(MARK, MARK)
    plan.size = reader.take(1, MOST_TILES)
    plan.signs = read_names(reader, MOST_SIGNS)
    plan.moods = read_names(reader, MOST_MOODS)
    for _ in range(reader.take(1, MOST_ROBOTS)):
        plan.robots.append(read_start(reader, plan))
    for tile in range(plan.size):
        plan.puts[tile] = reader.take(0, len(plan.signs) - 1)
    read_rules(reader, plan)
    checksum = sum(code[:reader.place]) % BYTES
    reader.take(checksum, checksum)
    reader.end()
    return canonical_text(plan)


def read_names(reader, most):
    """Returns the list of the names of all signs or of all moods."""
    names = []
    for _ in range(reader.take(1, most)):
        place = reader.place
        name = read_name(reader)
        if name in KEYWORDS or name in names:
            raise InvalidCode(place)
        names.append(name)
    return names


def read_name(reader):
    """Returns the letters of which the next bytes tell the number and each one."""
    length = reader.take(1, LONGEST_WORD)
    return "".join([LETTERS[reader.take(0, len(LETTERS) - 1)] for _ in range(length)])


def read_start(reader, plan):
    """Returns the start (tile, side) of a robot."""
    tile = reader.take(0, plan.size - 1)
    side = reader.take(0, len(SIDES) - 1)
    return (tile, side)


def read_rules(reader, plan):
    """Reads all rules into a plan."""
    last_sign = len(plan.signs) - 1
    last_mood = len(plan.moods) - 1
    # As if there were a rule for the mood before the first one and the last sign.
    mood, sign = -1, last_sign
    for _ in range(reader.take(0, len(plan.moods) * len(plan.signs))):
        earlier_mood, earlier_sign = mood, sign
        lowest_mood = earlier_mood + 1 if earlier_sign == last_sign else earlier_mood
        mood = reader.take(lowest_mood, last_mood)
        lowest_sign = earlier_sign + 1 if mood == earlier_mood else 0
        sign = reader.take(lowest_sign, last_sign)
        new_sign = reader.take(0, last_sign)
        move = reader.take(0, len(MOVES) - 1)
        plan.rules[(mood, sign)] = (new_sign, move, reader.take(0, last_mood))
