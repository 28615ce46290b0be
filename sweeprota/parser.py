"""Reads the statements of a plan, as the grammar says."""

from sweeprota.errors import SyntaxFault
from sweeprota.lexer import tokens_of


class Statement:
    """A statement: the token of its keyword, and the tokens that tell it from others like it."""

    def __init__(self, word, parts):
        self.word = word
        self.parts = parts


class Reader:
    """Takes the tokens of a text one after another."""

    def __init__(self, text):
        self.tokens = tokens_of(text)
        self.lines = text.count("\n") + 1
        self.at = 0

    def ended(self):
        """Returns whether all tokens have been taken."""
        return self.at == len(self.tokens)

    def sees(self, kind):
        """Returns whether the next token is of a kind."""
        return not self.ended() and self.tokens[self.at].kind == kind

    def take(self, *kinds):
        """Returns the next token, which must be of one of the kinds."""
        if self.ended():
            raise SyntaxFault(self.lines, 0)
        token = self.tokens[self.at]
        if token.kind not in kinds:
            raise SyntaxFault(token.line, token.column)
        self.at += 1
        return token


def parse(text):
    """Returns the statements of a plan, in the order of the text."""
    if not isinstance(text, str):
        raise SyntaxFault(0, 0)
    reader = Reader(text)
    statements = [read_corridor(reader)]
    statements.append(read_names(reader, "signs"))
    statements.append(read_names(reader, "moods"))
    statements.append(read_robot(reader))
    while not reader.ended():
        statements.append(read_statement(reader))
    return statements


def read_corridor(reader):
    """Reads the statement of the number of tiles."""
    word = reader.take("corridor")
    number = reader.take("number")
    reader.take(";")
    return Statement(word, [number])


def read_names(reader, keyword):
    """Reads the statement of all signs or of all moods."""
    word = reader.take(keyword)
    names = [reader.take("name")]
    while reader.sees("name"):
        names.append(reader.take("name"))
    reader.take(";")
    return Statement(word, names)


def read_statement(reader):
    """Reads one of the statements that may stand behind the first robot."""
    if reader.sees("put"):
        return read_put(reader)
    if reader.sees("when"):
        return read_rule(reader)
    return read_robot(reader)


def read_robot(reader):
    """Reads the statement of a robot's start."""
    word = reader.take("robot")
    number = reader.take("number")
    side = reader.take("left", "right")
    reader.take(";")
    return Statement(word, [number, side])


def read_put(reader):
    """Reads the statement of a sign on a tile."""
    word = reader.take("put")
    name = reader.take("name")
    number = reader.take("number")
    reader.take(";")
    return Statement(word, [name, number])


def read_rule(reader):
    """Reads the statement of a rule."""
    word = reader.take("when")
    mood = reader.take("name")
    sign = reader.take("name")
    reader.take("leave")
    new_sign = reader.take("name")
    move = reader.take("on", "back", "stay")
    new_mood = reader.take("name")
    reader.take(";")
    return Statement(word, [mood, sign, new_sign, move, new_mood])
