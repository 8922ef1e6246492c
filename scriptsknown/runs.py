"""What a plain script does on a line at a place.

A place is a line's number and 1 if it is the last line, else 0.
"""


class LineRun:
    """A line while commands are gone through on it, and what they did."""

    def __init__(self, line):
        self.line = line
        self.done = []
        self.ahead = []
        self.behind = []
        self.left_out = 0
        self.deleted = False
        self.over = False

    def coming(self):
        """The lines that come of it, one behind the other."""
        if self.deleted:
            return self.ahead + self.behind
        return self.ahead + [self.line] + self.behind


def line_run(commands, line, place):
    run = LineRun(line)
    for number, command in enumerate(commands):
        if run.over:
            break
        if run.left_out > 0:
            run.left_out -= 1
        elif holds(command.address, run.line, place):
            run.done.append(number)
            do_deed(command.deed, run)
    return run


def holds(address, line, place):
    held = holds_without_nots(address, line, place)
    return held if address.nots % 2 == 0 else not held


def holds_without_nots(address, line, place):
    if address.name == "all":
        return True
    if address.name == "last":
        return place[1] == 1
    if address.name == "has":
        return address.letters in line
    if address.name == "is":
        return address.letters == line
    return place[0] >= address.first and place[0] <= address.final


def do_deed(deed, run):
    if deed.name == "delete":
        run.deleted = True
        run.over = True
    elif deed.name == "stop":
        run.over = True
    elif deed.name == "before":
        run.ahead.append(deed.letters)
    elif deed.name == "after":
        run.behind.append(deed.letters)
    elif deed.name == "change":
        run.line = deed.letters
    elif deed.name == "skip":
        run.left_out = deed.number
