"""The commands of a script, and their one form."""


class Address:
    """An address: how many nots, its name, its numbers from first to final, its letters."""

    def __init__(self, nots, name, first, final, letters):
        self.nots = nots
        self.name = name
        self.first = first
        self.final = final
        self.letters = letters


class Deed:
    """A deed: its name, its letters, the letters behind these, its number."""

    def __init__(self, name, letters, other, number):
        self.name = name
        self.letters = letters
        self.other = other
        self.number = number


class Command:
    """An address and what is done where it holds."""

    def __init__(self, address, deed):
        self.address = address
        self.deed = deed


def everywhere():
    return Address(0, "all", 0, 0, "")


def never_done():
    return Command(Address(1, "all", 0, 0, ""), Deed("stop", "", "", 0))


def without(commands, number):
    """The commands with one that is never done in the place of this one."""
    # It is not taken out: a skip ahead of it has to count as before.
    return commands[:number] + [never_done()] + commands[number + 1:]


def taken_out(commands, number):
    """The commands that are left when this one is taken out."""
    return commands[:number] + commands[number + 1:]


def turned(commands, number):
    """The commands when this one and the next one have changed places."""
    return commands[:number] + [commands[number + 1], commands[number]] + commands[number + 2:]


def has_skip(commands):
    return any([command.deed.name == "skip" for command in commands])


def form_of(commands):
    """The one form of a script, as a text."""
    return "".join([command_form(command) for command in commands])


def command_form(command):
    words = address_words(command.address) + deed_words(command.deed) + [";"]
    return " ".join(words) + "\n"


def address_words(address):
    if address.nots == 0 and address.name == "all":
        return []
    words = ["if"] + ["not"] * address.nots
    if address.name == "line":
        return words + ["line", str(address.first)]
    if address.name == "from":
        return words + ["from", str(address.first), "to", str(address.final)]
    if address.name == "has" or address.name == "is":
        return words + [address.name, address.letters]
    return words + [address.name]


def deed_words(deed):
    if deed.name in ("before", "after", "change"):
        return [deed.name, deed.letters]
    if deed.name in ("swap", "first"):
        return [deed.name, deed.letters, deed.other if deed.other != "" else "none"]
    if deed.name == "skip":
        return ["skip", str(deed.number)]
    return [deed.name]
