"""The tokens of a program's text (points 1.1 to 1.5)."""

from wholepackets.errors import TextError

RESERVED = (
    "accept", "action", "add", "apply", "control", "default", "drop", "else", "emit",
    "exact", "extract", "go", "header", "if", "key", "mask", "meta", "not", "packet",
    "parser", "prefix", "program", "reject", "remove", "select", "send", "size", "state",
    "table", "use", "valid",
)
LETTERS = "abcdefghijklmnopqrstuvwxyzABCDEFGHIJKLMNOPQRSTUVWXYZ"
DIGITS = "0123456789"
HEX_DIGITS = "0123456789abcdef"
LONG_SIGNS = ("==", "->")
SHORT_SIGNS = ("{", "}", "(", ")", ":", ";", ",", ".", "=", "<", "+", "-", "&", "|", "^")
LONGEST_NAME = 16
MOST_DIGITS = 10
MOST_HEX_DIGITS = 8
GREATEST_NUMBER = 4294967295


def is_reserved(name):
    """Tell if a string is a reserved word."""
    return name in RESERVED


def tokenize(text):
    """Return the list of the tokens of a text, or raise TextError."""
    tokens = []
    line = 1
    at = 0
    while at < len(text):
        char = text[at]
        if char == "#":
            at = comment_end(text, at)
        elif char == " ":
            at += 1
        elif char == "\n":
            line += 1
            at += 1
        else:
            end = part_end(text, at)
            tokens.append(token_of(text[at:end], line))
            at = end
    tokens.append(("end", "", line))
    return tokens


def comment_end(text, at):
    """Return where the comment ends that starts at a position."""
    end = text.find("\n", at)
    if end == -1:
        return len(text)
    return end


def part_end(text, at):
    """Return where the run or the sign ends that starts at a position."""
    if not in_run(text[at]):
        if text[at:at + 2] in LONG_SIGNS:
            return at + 2
        return at + 1
    end = at
    while end < len(text) and in_run(text[end]):
        end += 1
    return end


def in_run(char):
    """Tell if a character is a letter, a digit or an underscore."""
    return char in LETTERS or char in DIGITS or char == "_"


def token_of(part, line):
    """Return the token that a run or a sign is."""
    if part[0] in LETTERS and len(part) <= LONGEST_NAME:
        if is_reserved(part):
            return ("word", part, line)
        return ("name", part, line)
    if is_number(part):
        return ("number", number_value(part), line)
    if part in LONG_SIGNS or part in SHORT_SIGNS:
        return ("sign", part, line)
    raise TextError(line)


def is_number(part):
    """Tell if a run or a sign is a number that is not too great."""
    if part.startswith("0x"):
        digits = part[2:]
        return 1 <= len(digits) <= MOST_HEX_DIGITS and consists_of(digits, HEX_DIGITS)
    return is_decimal(part)


def is_decimal(part):
    """Tell if a part is a number in decimal digits that is not too great."""
    if part.startswith("0"):
        return part == "0"
    # The length goes first: Python refuses to convert thousands of digits.
    if not 1 <= len(part) <= MOST_DIGITS or not consists_of(part, DIGITS):
        return False
    return int(part) <= GREATEST_NUMBER


def number_value(part):
    """Return the value of a number."""
    if part.startswith("0x"):
        return int(part[2:], 16)
    return int(part)


def consists_of(part, chars):
    """Tell if all characters of a part are among some characters."""
    return all(char in chars for char in part)
