"""Reads the commands of a script from its tokens."""

from scriptsknown.commands import Address, Command, Deed, everywhere
from scriptsknown.faults import Fault
from scriptsknown.tokens import tokens_of

MOST_BYTES = 4096
MOST_COMMANDS = 16
MOST_NOTS = 3
GREATEST_LINE = 99
GREATEST_SKIP = 9
OWN_WORDS = (
    "if", "all", "line", "from", "to", "last", "has", "is", "not", "delete", "before", "after",
    "change", "swap", "first", "keep", "bring", "trade", "skip", "stop", "none",
)
DEEDS_ALONE = ("delete", "keep", "bring", "trade", "stop")
DEEDS_OF_LETTERS = ("before", "after", "change")
DEEDS_OF_TWO = ("swap", "first")


class Reader:
    """Goes through tokens from the first on; each taking tells the fault that it meets."""

    def __init__(self, tokens):
        self.tokens = tokens
        self.at = 0

    def here(self):
        return self.tokens[self.at]

    def stands(self, word):
        return self.here().kind == "word" and self.here().value == word

    def take_kind(self, kind):
        token = self.here()
        if token.kind != kind:
            raise Fault(3, token.place)
        self.at += 1
        return token

    def take_word(self, word):
        token = self.take_kind("word")
        if token.value != word:
            raise Fault(3, token.place)

    def take_letters(self):
        token = self.take_kind("word")
        if token.value in OWN_WORDS:
            raise Fault(3, token.place)
        return token.value

    def take_number(self, least, greatest):
        token = self.take_kind("number")
        if token.value < least or token.value > greatest:
            raise Fault(7, token.place)
        return token.value


def commands_of(script):
    """The commands of a list of bytes; raises Fault if there is a fault in it."""
    if len(script) > MOST_BYTES:
        raise Fault(1, MOST_BYTES)
    # All tokens come first: fault 2 anywhere is ahead of the faults told from left to right.
    reader = Reader(tokens_of(script))
    commands = []
    while reader.here().kind != "end":
        if len(commands) == MOST_COMMANDS:
            raise Fault(4, reader.here().place)
        commands.append(read_command(reader))
    return commands


def read_command(reader):
    address = everywhere()
    if reader.stands("if"):
        reader.take_word("if")
        address = read_address(reader)
    deed = read_deed(reader)
    reader.take_kind("sign")
    return Command(address, deed)


def read_address(reader):
    nots = read_nots(reader)
    token = reader.take_kind("word")
    name = token.value
    if name == "all" or name == "last":
        return Address(nots, name, 0, 0, "")
    if name == "has" or name == "is":
        return Address(nots, name, 0, 0, reader.take_letters())
    if name == "line":
        number = reader.take_number(1, GREATEST_LINE)
        return Address(nots, name, number, number, "")
    if name == "from":
        first = reader.take_number(1, GREATEST_LINE)
        reader.take_word("to")
        return Address(nots, name, first, reader.take_number(first, GREATEST_LINE), "")
    raise Fault(3, token.place)


def read_nots(reader):
    nots = 0
    while reader.stands("not"):
        if nots == MOST_NOTS:
            raise Fault(4, reader.here().place)
        reader.take_word("not")
        nots += 1
    return nots


def read_deed(reader):
    token = reader.take_kind("word")
    name = token.value
    if name in DEEDS_ALONE:
        return Deed(name, "", "", 0)
    if name in DEEDS_OF_LETTERS:
        return Deed(name, reader.take_letters(), "", 0)
    if name in DEEDS_OF_TWO:
        letters = reader.take_letters()
        return Deed(name, letters, read_other(reader), 0)
    if name == "skip":
        return Deed(name, "", "", reader.take_number(1, GREATEST_SKIP))
    raise Fault(3, token.place)


def read_other(reader):
    """The letters that come in the place of others; none of them may be told, too."""
    if reader.stands("none"):
        reader.take_word("none")
        return ""
    return reader.take_letters()
