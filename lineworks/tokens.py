"""Tokens of a source, and places in it."""

from lineworks.errors import SourceError

BLANKS = (" ", "\t", "\n")
DIGITS = "0123456789"
LETTERS = "abcdefghijklmnopqrstuvwxyz_ABCDEFGHIJKLMNOPQRSTUVWXYZ"
# The longer signs come first, so that they are found ahead of their beginnings.
SIGNS = ("<=", ">=", "!=", "(", ")", ";", ",", ".", "<", ">", "=", "+", "-", "*")

MOST_WORD = 20
MOST_NUMBER = 15
MOST_TEXT = 100


def tokens(source):
    """Returns the tokens of a source as a list of (kind, value, offset)."""
    found = []
    offset = behind_gap(source, 0)
    while offset < len(source):
        kind, value, end = read_token(source, offset)
        found.append((kind, value, offset))
        offset = behind_gap(source, end)
    return found


def place(source, offset):
    """Returns the line and the column of an index of a source."""
    line = source.count("\n", 0, offset) + 1
    column = offset - source.rfind("\n", 0, offset)
    return line, column


def behind_gap(source, start):
    """Returns the index behind the blanks and comments that begin at start."""
    end = start
    while end < len(source):
        if source[end] in BLANKS:
            end += 1
        elif source[end] == "#":
            end = behind_comment(source, end)
        else:
            return end
    return end


def behind_comment(source, start):
    """Returns the index of the newline that ends a comment, or the end of the source."""
    newline = source.find("\n", start)
    if newline < 0:
        return len(source)
    return newline


def read_token(source, start):
    """Returns the kind and the value of the token at start, and the index behind it."""
    first = source[start]
    if first in LETTERS:
        return read_word(source, start)
    if first in DIGITS:
        return read_number(source, start)
    if first == "'":
        return read_text(source, start)
    return read_sign(source, start)


def read_word(source, start):
    end = behind_run(source, start, LETTERS + DIGITS)
    if end - start > MOST_WORD:
        refuse(source, start)
    return "word", source[start:end], end


def read_number(source, start):
    end = behind_run(source, start, DIGITS)
    if end - start > MOST_NUMBER:
        refuse(source, start)
    return "number", int(source[start:end]), end


def read_text(source, start):
    end = behind_text(source, start)
    if end is None:
        refuse(source, start)
    value = source[start + 1:end - 1].replace("''", "'")
    if len(value) > MOST_TEXT:
        refuse(source, start)
    return "text", value, end


def read_sign(source, start):
    begun = [sign for sign in SIGNS if source.startswith(sign, start)]
    if not begun:
        refuse(source, start)
    return "sign", begun[0], start + len(begun[0])


def behind_run(source, start, members):
    """Returns the index behind the members that stand side by side from start on."""
    end = start
    while end < len(source) and source[end] in members:
        end += 1
    return end


def behind_text(source, start):
    """Returns the index behind the quote that ends a text, None if there is none."""
    end = start + 1
    while end < len(source) and source[end] != "\n":
        if source[end] != "'":
            end += 1
        elif source.startswith("''", end):
            end += 2
        else:
            return end + 1
    return None


def refuse(source, offset):
    line, column = place(source, offset)
    raise SourceError(line, column, "unknown character")
