"""The calls on an object that holds a plain script, or none."""

from scriptsknown.commands import form_of, without
from scriptsknown.faults import Fault
from scriptsknown.kinds import is_plain, kinds_of
from scriptsknown.reading import commands_of
from scriptsknown.runs import first_done, first_unlike

LOAD = 0
SHOWN = 1
KINDS = 2
CAN = 3
MATTERS = 4
CALLS_WITH_A_NUMBER = (3, 4, 6, 7)
CALLS_WITH_A_LIST = (0, 8)
NO_SCRIPT = -1
NO_SUCH_COMMAND = -2
NOT_PLAIN = -6


class NotBuilt(Exception):
    """A call that the program does not answer yet."""


class Holder:
    """Holds a plain script and its kinds, or none, from call to call."""

    def __init__(self):
        self.commands = None
        self.kinds_held = []

    def load(self, script):
        try:
            commands = commands_of(script)
        except Fault as fault:
            return [0, fault.code, fault.place]
        if not is_plain(commands):
            return [NOT_PLAIN]
        self.commands = commands
        self.kinds_held = kinds_of(commands)
        return [1, len(self.commands), len(self.kinds_held)]

    def shown(self):
        return told_text(form_of(self.commands))

    def kinds(self):
        told = [len(self.kinds_held)]
        for kind in self.kinds_held:
            told.extend(told_text(kind))
        return told

    def can(self, number):
        if not self.has_command(number):
            return [NO_SUCH_COMMAND]
        return told_first(first_done(self.commands, self.kinds_held, number))

    def matters(self, number):
        if not self.has_command(number):
            return [NO_SUCH_COMMAND]
        others = without(self.commands, number)
        return told_first(first_unlike(self.commands, others, self.kinds_held))

    def has_command(self, number):
        return number >= 0 and number < len(self.commands)


def answers(calls):
    """What is answered to each call of a list, with how many numbers ahead of it."""
    holder = Holder()
    told = []
    at = 0
    while at < len(calls):
        behind = behind_call(calls, at)
        answer = answer_of(holder, calls[at:behind])
        told.append(len(answer))
        told.extend(answer)
        at = behind
    return told


def behind_call(calls, at):
    """The offset behind the call that begins here."""
    if calls[at] in CALLS_WITH_A_NUMBER:
        return at + 2
    if calls[at] in CALLS_WITH_A_LIST:
        return at + 2 + calls[at + 1]
    return at + 1


def answer_of(holder, call):
    if call[0] == LOAD:
        return holder.load(call[2:])
    if holder.commands is None:
        return [NO_SCRIPT]
    if call[0] == SHOWN:
        return holder.shown()
    if call[0] == KINDS:
        return holder.kinds()
    if call[0] == CAN:
        return holder.can(call[1])
    if call[0] == MATTERS:
        return holder.matters(call[1])
    number = call[0]
    raise NotBuilt(f"call {number}")


def told_text(text):
    """How many bytes a text has, then they."""
    return [len(text)] + [ord(sign) for sign in text]


def told_first(found):
    """A place and a kind, if there are some, as an answer."""
    if found is None:
        return [0]
    place = found[0]
    return [1, place[0], place[1]] + told_text(found[1])
