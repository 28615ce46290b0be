"""Checks a plan and keeps what it says."""

from sweeprota.errors import CheckFault
from sweeprota.parser import parse

MOST_TILES = 16
MOST_SIGNS = 4
MOST_MOODS = 6
MOST_ROBOTS = 3

SIDES = ("left", "right")
MOVES = ("on", "back", "stay")


class Plan:
    """What a plan says.

    Signs, moods, sides and moves are kept as their numbers in signs, moods, SIDES and MOVES.
    """

    def __init__(self):
        self.size = 0
        self.signs = []
        self.moods = []
        # A robot is (tile, side); its mood in the beginning is the first one.
        self.robots = []
        # puts has the sign by the tile; rules has (sign, move, mood) by (mood, sign).
        self.puts = {}
        self.rules = {}


def read_plan(text):
    """Returns the Plan of a text; raises SyntaxFault, CheckFault."""
    return checked_plan(parse(text))


def read_plans(texts):
    """Returns the list of the Plans of several texts; raises SyntaxFault, CheckFault."""
    # A SyntaxFault in any text comes before a CheckFault in an earlier one, as the interface lists them.
    parsed = [parse(text) for text in texts]
    return [checked_plan(statements) for statements in parsed]


def checked_plan(statements):
    """Returns the Plan of the statements of a text; raises CheckFault."""
    plan = Plan()
    for statement in statements:
        add = ADDERS[statement.word.kind]
        add(plan, statement)
    return plan


def changed_plan(plan, robots, puts):
    """Returns a Plan that is like another one but for the robots and the puts."""
    changed = Plan()
    changed.size = plan.size
    changed.signs = plan.signs
    changed.moods = plan.moods
    changed.robots = robots
    changed.puts = puts
    changed.rules = plan.rules
    return changed


def started_plans(plan):
    """Returns the list of (start, Plan) for all starts (tile, "left" or "right") of robot 0, all else being equal."""
    plans = []
    for tile in range(plan.size):
        for side, word in enumerate(SIDES):
            robots = [(tile, side)] + plan.robots[1:]
            plans.append(((tile, word), changed_plan(plan, robots, plan.puts)))
    return plans


def require(holds, reason, token):
    """Raises CheckFault at a token unless what is required holds."""
    if not holds:
        raise CheckFault(reason, token.line, token.column)


def add_corridor(plan, statement):
    """Sets the number of tiles."""
    number = statement.parts[0]
    plan.size = int(number.text)
    require(1 <= plan.size <= MOST_TILES, "corridor", number)


def add_signs(plan, statement):
    """Adds all signs."""
    add_names(plan.signs, MOST_SIGNS, "signs", statement.parts)


def add_moods(plan, statement):
    """Adds all moods."""
    add_names(plan.moods, MOST_MOODS, "moods", statement.parts)


def add_names(names, most, reason, tokens):
    """Adds the names of tokens, all different and not more than most."""
    for token in tokens:
        require(token.text not in names, "duplicate", token)
        require(len(names) < most, reason, token)
        names.append(token.text)


def add_robot(plan, statement):
    """Adds the start of a robot."""
    number, side = statement.parts
    require(len(plan.robots) < MOST_ROBOTS, "robots", statement.word)
    plan.robots.append((tile_of(plan, number), SIDES.index(side.text)))


def add_put(plan, statement):
    """Adds the sign that lies on a tile in the beginning."""
    name, number = statement.parts
    sign = number_of(plan.signs, name)
    tile = tile_of(plan, number)
    require(tile not in plan.puts, "again", number)
    plan.puts[tile] = sign


def add_rule(plan, statement):
    """Adds a rule."""
    mood, sign, new_sign, move, new_mood = statement.parts
    # The keyword stands before the names, but a pair that occurs again has no unknown name.
    pair = (number_of(plan.moods, mood), number_of(plan.signs, sign))
    require(pair not in plan.rules, "twice", statement.word)
    sign_left = number_of(plan.signs, new_sign)
    plan.rules[pair] = (sign_left, MOVES.index(move.text), number_of(plan.moods, new_mood))


def tile_of(plan, token):
    """Returns the tile that a token names."""
    tile = int(token.text)
    require(tile < plan.size, "tile", token)
    return tile


def number_of(names, token):
    """Returns the number of a name among the signs or the moods."""
    require(token.text in names, "unknown", token)
    return names.index(token.text)


ADDERS = {
    "corridor": add_corridor,
    "signs": add_signs,
    "moods": add_moods,
    "robot": add_robot,
    "put": add_put,
    "when": add_rule,
}
