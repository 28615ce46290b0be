"""A second, simple machine, written from the document alone, to compare the package with."""

import re


class Model:
    """Runs a correct plan with names instead of numbers."""

    def __init__(self, text):
        words = re.findall(r"[a-z]+|[0-9]+|;", text)
        statements = " ".join(words).split(" ;")
        self.robots = []
        self.rules = {}
        placed = {}
        for statement in statements:
            match statement.split():
                case ["corridor", number]:
                    self.size = int(number)
                case ["signs", *names]:
                    self.sign_names = names
                case ["moods", *names]:
                    self.mood_names = names
                case ["robot", number, side]:
                    self.robots.append([int(number), side, None])
                case ["put", name, number]:
                    placed[int(number)] = name
                case ["when", mood, sign, "leave", new_sign, move, new_mood]:
                    self.rules[mood, sign] = (new_sign, move, new_mood)
        for robot in self.robots:
            robot[2] = self.mood_names[0]
        self.signs = [placed.get(tile, self.sign_names[0]) for tile in range(self.size)]

    def situation(self):
        return repr((self.signs, self.robots))

    def tick(self):
        """Lets one tick pass; returns (tile, word) for each robot."""
        return [(robot[0], self.act(robot)) for robot in self.robots]

    def act(self, robot):
        rule = self.rules.get((robot[2], self.signs[robot[0]]))
        if rule is None:
            return "rest"
        self.signs[robot[0]], word, robot[2] = rule
        if word == "back":
            self.turn(robot)
        if word != "stay":
            ahead = robot[0] + {"left": -1, "right": 1}[robot[1]]
            if ahead in range(self.size):
                robot[0] = ahead
            else:
                self.turn(robot)
        return word

    def turn(self, robot):
        robot[1] = {"left": "right", "right": "left"}[robot[1]]

    def cycle(self, limit):
        """Returns (begin, length), or None if no situation comes again up to a tick."""
        seen = {}
        for tick in range(limit + 1):
            now = self.situation()
            if now in seen:
                return seen[now], tick - seen[now]
            seen[now] = tick
            self.tick()
        return None


def starts_in(size):
    """All starts of a robot, in order."""
    return [(tile, side) for tile in range(size) for side in ("left", "right")]


def with_start(text, start):
    """The text of a plan with another start of robot 0."""
    tile, side = start
    return re.sub("robot\\s+[0-9]+\\s+(left|right)", f"robot {tile} {side}", text, count=1)


class Ledger:
    """A corridor that only lists operations, and executes them from the beginning whenever it is asked something.

    Its operations are the tuples of a batch.
    """

    def __init__(self, text):
        self.text = text
        self.done = []
        self.undone = []

    def execute(self, operation):
        """Executes a correct operation; returns its result."""
        if operation == ("undo",):
            return self.shift(self.done, self.undone)
        if operation == ("redo",):
            return self.shift(self.undone, self.done)
        self.done.append(operation)
        self.undone = []
        return self.told()[-1]

    def shift(self, source, target):
        if not source:
            return False
        target.append(source.pop())
        return True

    def told(self):
        """The list of all properties, and of the result of the last operation in effect."""
        model = Model(self.text)
        sweeps = [0] * model.size
        passed = 0
        result = None
        for word, *arguments in self.done:
            if word == "step":
                passed += arguments[0]
                result = [[tile for tile, _ in model.tick()] for _ in range(arguments[0])]
                for tile in sum(result, []):
                    sweeps[tile] += 1
            elif word == "put":
                tile, sign = arguments
                result = model.signs[tile]
                model.signs[tile] = sign
            else:
                robot = model.robots[arguments[0]]
                result = robot[0]
                model.turn(robot)
        robots = [tuple(robot) for robot in model.robots]
        return [passed, robots, model.signs, sweeps, [operation[0] for operation in self.done], result]


class Walk:
    """The first ticks of a plan: the rows of the tiles and words of all robots, and the signs after each."""

    def __init__(self, text, count):
        model = Model(text)
        self.size = model.size
        self.tiles = []
        self.words = []
        self.signs = []
        for _ in range(count):
            done = model.tick()
            self.tiles.append([tile for tile, _ in done])
            self.words.append([word for _, word in done])
            self.signs.append(list(model.signs))

    def ticks_of(self, tile):
        """The ticks in which a tile is swept."""
        return [tick for tick, tiles in enumerate(self.tiles) if tile in tiles]
