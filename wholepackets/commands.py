"""The commands of a script (points 17.1, 17.2 and 17.4)."""

from wholepackets.bits import LONGEST_PACKET
from wholepackets.entries import GREATEST_PRIORITY
from wholepackets.errors import CommandError
from wholepackets.meaning import GREATEST_PORT
from wholepackets.tokens import HEX_DIGITS, consists_of, is_decimal

MOST_PIPES = 4
LONGEST_QUEUE = 16
MOST_TICKS = 4096
TEXT_END = "."
NO_ARGS = "-"
PAIR_SIGNS = ("&", "/")
BARE_WORDS = ("restart", "trace", "hits", "inside")


def read_commands(script):
    """Return the list of the commands of a script, or raise CommandError.

    The commands that are events of a switch have the form of these events.
    """
    reader = LineReader(script)
    commands = []
    while reader.find_command():
        commands.append(read_command(reader))
    return commands


class LineReader:
    """Goes through the lines of a script, and through the words of a command."""

    def __init__(self, script):
        self.lines = script.split("\n")
        # How many lines were passed; the number of the command's line and its words, and how
        # many of them were passed.
        self.passed_lines = 0
        self.line = 0
        self.words = []
        self.passed_words = 0

    def find_command(self):
        """Go to the next line with a command, and tell if there is one."""
        while self.passed_lines < len(self.lines):
            words = [word for word in self.lines[self.passed_lines].split(" ") if word]
            self.passed_lines += 1
            if words and not words[0].startswith("#"):
                self.line = self.passed_lines
                self.words = words
                self.passed_words = 0
                return True
        return False

    def fail(self):
        """Raise CommandError with the line of the command."""
        raise CommandError(self.line)

    def next_word(self):
        """Pass the next word, which must exist, and return it."""
        if self.passed_words == len(self.words):
            self.fail()
        self.passed_words += 1
        return self.words[self.passed_words - 1]

    def last_words(self):
        """Pass all words that are left, and return them."""
        found = self.words[self.passed_words:]
        self.passed_words = len(self.words)
        return found

    def check_end(self):
        """Raise CommandError if a word is left."""
        if self.passed_words < len(self.words):
            self.fail()

    def number_in(self, part):
        """Return the number that a part of a word must be."""
        if not is_decimal(part):
            self.fail()
        return int(part)

    def next_number(self, lowest, greatest):
        """Pass the next word, which must be a number within these bounds, and return it."""
        number = self.number_in(self.next_word())
        if not lowest <= number <= greatest:
            self.fail()
        return number

    def next_text(self):
        """Pass the lines of a program text and the line behind them, and return the text."""
        first = self.passed_lines
        at = first
        while at < len(self.lines) and self.lines[at] != TEXT_END:
            at += 1
        if at == len(self.lines):
            self.fail()
        self.passed_lines = at + 1
        return "\n".join(self.lines[first:at])


def read_command(reader):
    """Return the command in the line of a reader."""
    word = reader.next_word()
    if word in BARE_WORDS:
        reader.check_end()
        return (word,)
    if word not in READERS:
        reader.fail()
    read = READERS[word]
    return read(reader)


def read_start(reader):
    """Return the command `start`, with its numbers in order and its text."""
    pipes = reader.next_number(1, MOST_PIPES)
    sizes = [reader.next_number(1, LONGEST_QUEUE) for _ in range(3)]
    reader.check_end()
    return ("start", pipes, *sizes, reader.next_text())


def read_program(reader):
    """Return the change of the command `program`."""
    reader.check_end()
    return ("change", ("program", reader.next_text()))


def read_add(reader):
    """Return the change of the command `add`."""
    table = reader.next_word()
    priority = reader.next_number(0, GREATEST_PRIORITY)
    action = reader.next_word()
    args = args_in(reader, reader.next_word())
    return ("change", ("add", table, ("entry", keys_in(reader), priority, action, args)))


def read_remove(reader):
    """Return the change of the command `remove`."""
    table = reader.next_word()
    priority = reader.next_number(0, GREATEST_PRIORITY)
    return ("change", ("remove", table, keys_in(reader), priority))


def args_in(reader, word):
    """Return the list of the arguments that a word is."""
    if word == NO_ARGS:
        return []
    return [reader.number_in(part) for part in word.split(",")]


def keys_in(reader):
    """Return the list of the keys that the words of a command that are left are."""
    return [key_in(reader, word) for word in reader.last_words()]


def key_in(reader, word):
    """Return the number or the pair of numbers that a word is."""
    for sign in PAIR_SIGNS:
        if sign in word:
            first, _, second = word.partition(sign)
            return (reader.number_in(first), reader.number_in(second))
    return reader.number_in(word)


def read_packet(reader):
    """Return the event of the command `packet`."""
    port = reader.next_number(0, GREATEST_PORT)
    digits = reader.next_word()
    reader.check_end()
    if not is_octets(digits):
        reader.fail()
    return ("packet", port, [int(digits[at:at + 2], 16) for at in range(0, len(digits), 2)])


def is_octets(word):
    """Tell if a word is the octets of a packet."""
    if len(word) % 2 != 0 or len(word) > 2 * LONGEST_PACKET:
        return False
    return consists_of(word, HEX_DIGITS)


def read_tick(reader):
    """Return the command `tick`, with its number."""
    many = reader.next_number(0, MOST_TICKS)
    reader.check_end()
    return ("tick", many)


READERS = {
    "start": read_start,
    "program": read_program,
    "add": read_add,
    "remove": read_remove,
    "packet": read_packet,
    "tick": read_tick,
}
