"""The calls on an object that holds a plain script, or none."""

from scriptsknown.commands import form_of, has_skip, taken_out, turned, without
from scriptsknown.faults import Fault
from scriptsknown.kinds import LONGEST_LINE, is_plain, kinds_of
from scriptsknown.places import all_outcomes, first_unlike, first_unsafe, numbers_of, where_done
from scriptsknown.reading import commands_of
from scriptsknown.tokens import is_letter, text_of

LOAD = 0
SHOWN = 1
KINDS = 2
CAN = 3
MATTERS = 4
IDLE = 5
TURN = 6
LINES = 7
SAFE = 8
CALLS_WITH_A_NUMBER = (3, 4, 6, 7)
CALLS_WITH_A_LIST = (0, 8)
NO_SCRIPT = -1
NO_SUCH_COMMAND = -2
HAS_SKIP = -3
NOT_A_LINE = -4
NOT_PLAIN = -6


class Holder:
    """Holds a plain script with its kinds and what it does on them, or none, from call to call."""

    def __init__(self):
        self.commands = None
        self.kinds_held = []
        self.outcomes = []

    def hold(self, commands):
        self.commands = commands
        self.kinds_held = kinds_of(commands)
        self.outcomes = all_outcomes(commands, self.kinds_held)

    def load(self, script):
        try:
            commands = commands_of(script)
        except Fault as fault:
            return [0, fault.code, fault.place]
        if not is_plain(commands):
            return [NOT_PLAIN]
        self.hold(commands)
        return [1, len(self.commands), len(self.kinds_held)]

    def shown(self):
        return told_text(form_of(self.commands))

    def kinds(self):
        told = [len(self.kinds_held)]
        for kind in self.kinds_held:
            told.extend(told_text(kind))
        return told

    def can(self, number):
        done = where_done(self.outcomes, number)
        return [1] + told_place_and_kind(done[0]) if done else [0]

    def matters(self, number):
        found = self.first_mattering(number)
        return [0] if found is None else [1] + told_place_and_kind(found)

    def idle(self):
        numbers = [number for number in range(len(self.commands)) if self.first_mattering(number) is None]
        return [len(numbers)] + numbers

    def turn(self, number):
        if not self.has_command(number + 1):
            return [NO_SUCH_COMMAND]
        found = first_unlike(self.outcomes, turned(self.commands, number))
        return [1] if found is None else [0] + told_place_and_kind(found)

    def lines(self, number):
        numbers = numbers_of(where_done(self.outcomes, number))
        return [len(numbers)] + numbers

    def safe(self, line):
        if len(line) > LONGEST_LINE or not all([is_letter(byte) for byte in line]):
            return [NOT_A_LINE]
        place = first_unsafe(self.commands, text_of(line))
        return [1] if place is None else [0, place[0], place[1]]

    def prune(self):
        if has_skip(self.commands):
            return [HAS_SKIP]
        number = self.first_idle()
        while number is not None:
            self.hold(taken_out(self.commands, number))
            # Ones ahead of it can be idle now: what they kept from being done may be gone.
            number = self.first_idle()
        return [len(self.commands)]

    def has_command(self, number):
        return number >= 0 and number < len(self.commands)

    def first_mattering(self, number):
        # Only where a command is done can anything else come without it.
        return first_unlike(where_done(self.outcomes, number), without(self.commands, number))

    def first_idle(self):
        for number in range(len(self.commands)):
            if self.first_mattering(number) is None:
                return number
        return None


def answers(calls):
    """What is answered to each call of a list, with how many numbers ahead of it."""
    holder = Holder()
    told = []
    at = 0
    while at < len(calls):
        behind = behind_call(calls, at)
        answer = answer_of(holder, calls[at:behind])
        told.append(len(answer))
        told.extend(answer)
        at = behind
    return told


def behind_call(calls, at):
    """The offset behind the call that begins here."""
    if calls[at] in CALLS_WITH_A_NUMBER:
        return at + 2
    if calls[at] in CALLS_WITH_A_LIST:
        return at + 2 + calls[at + 1]
    return at + 1


def answer_of(holder, call):
    if call[0] == LOAD:
        return holder.load(call[2:])
    if holder.commands is None:
        return [NO_SCRIPT]
    if call[0] in CALLS_WITH_A_NUMBER:
        return answer_of_command(holder, call[0], call[1])
    if call[0] == SHOWN:
        return holder.shown()
    if call[0] == KINDS:
        return holder.kinds()
    if call[0] == IDLE:
        return holder.idle()
    if call[0] == SAFE:
        return holder.safe(call[2:])
    return holder.prune()


def answer_of_command(holder, call, number):
    if not holder.has_command(number):
        return [NO_SUCH_COMMAND]
    if call == CAN:
        return holder.can(number)
    if call == MATTERS:
        return holder.matters(number)
    if call == TURN:
        return holder.turn(number)
    return holder.lines(number)


def told_text(text):
    """How many bytes a text has, then they."""
    return [len(text)] + [ord(sign) for sign in text]


def told_place_and_kind(outcome):
    return [outcome.place[0], outcome.place[1]] + told_text(outcome.kind)
