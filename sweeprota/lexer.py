"""Splits the text of a plan into tokens."""

from sweeprota.errors import SyntaxFault

LETTERS = "abcdefghijklmnopqrstuvwxyz"
DIGITS = "0123456789"
KEYWORDS = (
    "corridor", "signs", "moods", "robot", "put", "when",
    "leave", "left", "right", "on", "back", "stay",
)
LONGEST_WORD = 8
LONGEST_NUMBER = 2


class Token:
    """A token: its kind (the keyword, ";", "name" or "number"), its text and its place."""

    def __init__(self, kind, text, line, column):
        self.kind = kind
        self.text = text
        self.line = line
        self.column = column


def tokens_of(text):
    """Returns the tokens of a text; raises SyntaxFault at the first invalid one."""
    tokens = []
    for line, row in enumerate(text.split("\n")):
        tokens.extend(tokens_in(row, line))
    return tokens


def tokens_in(row, line):
    """Returns the tokens in one line of a text."""
    tokens = []
    start = 0
    while start < len(row):
        if row[start] == " ":
            start += 1
            continue
        end = token_end(row, start)
        word = row[start:end]
        kind = kind_of(word)
        if kind is None:
            raise SyntaxFault(line, start)
        tokens.append(Token(kind, word, line, start))
        start = end
    return tokens


def token_end(row, start):
    """Returns where the token that begins at start ends: as late as possible."""
    for characters in (LETTERS, DIGITS):
        if row[start] in characters:
            return run_end(row, start, characters)
    return start + 1


def run_end(row, start, characters):
    """Returns the end of the run of these characters that begins at start."""
    end = start
    while end < len(row) and row[end] in characters:
        end += 1
    return end


def kind_of(word):
    """Returns the kind of a word, or None if it is no valid token."""
    if word == ";" or word in KEYWORDS:
        return word
    if word[0] in LETTERS and len(word) <= LONGEST_WORD:
        return "name"
    if word[0] in DIGITS and len(word) <= LONGEST_NUMBER:
        if word == "0" or word[0] != "0":
            return "number"
    return None
