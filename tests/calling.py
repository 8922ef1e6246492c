"""Ways to call the program, and a second account of plain scripts to hold it against."""

from scriptsknown.scripts import answers

LOAD, SHOWN, KINDS, CAN, MATTERS, IDLE, TURN, LINES, SAFE, PRUNE = range(10)
NUMBER_CALLS = (CAN, MATTERS, TURN, LINES)

PLACES = sorted([(n, last) for n in range(1, 25) for last in (0, 1) if n < 24 or last == 1])


def as_bytes(text):
    return list(text.encode("latin-1")) if isinstance(text, str) else list(text)


def load(text):
    script = as_bytes(text)
    return [LOAD, len(script)] + script


def safe(text):
    line = as_bytes(text)
    return [SAFE, len(line)] + line


def parted(told):
    """The answers, each a list, of what the interface gives back."""
    found = []
    at = 0
    while at < len(told):
        found.append(told[at + 1:at + 1 + told[at]])
        assert len(found[-1]) == told[at], "a count that does not fit"
        at += 1 + told[at]
    return found


def answered(*calls):
    """The answer of each call; a call is a list of numbers."""
    flat = []
    for call in calls:
        flat.extend(call)
    return parted(answers(flat))


def loaded(text):
    return answered(load(text))[0]


def after_load(text, *calls):
    """What is answered to the calls behind a load that has to go well."""
    found = answered(load(text), *calls)
    assert found[0][0] == 1, found[0]
    return found[1:]


def many(text, call, arguments):
    """One call for each argument, on the same script, however many there are."""
    found = []
    for at in range(0, len(arguments), 9):
        found.extend(after_load(text, *[[call, number] for number in arguments[at:at + 9]]))
    return found


def shown_text(text):
    found = after_load(text, [SHOWN])[0]
    assert found[0] == len(found) - 1
    return bytes(found[1:]).decode("ascii")


def kind_texts(text):
    found = after_load(text, [KINDS])[0]
    texts = []
    at = 1
    while at < len(found):
        texts.append(bytes(found[at + 1:at + 1 + found[at]]).decode("ascii"))
        at += 1 + found[at]
    assert found[0] == len(texts)
    return texts


def first(number, last, line, ahead=1):
    """The answer that tells a place and a kind; turn has a 0 ahead of them."""
    return [ahead, number, last, len(line)] + as_bytes(line)


class Dice:
    """Numbers in no plain order, the same ones each time."""

    def __init__(self, seed):
        self.state = seed * 2654435761 + 12345

    def below(self, bound):
        self.state = (self.state * 6364136223846793005 + 1442695040888963407) % 2 ** 64
        return (self.state >> 33) % bound

    def one_of(self, things):
        return things[self.below(len(things))]


# A second account. A command is a list of its tokens: (nots, address, deed), each a tuple.

SOUGHT = ("a", "b", "ab", "ba", "aba", "bb", "cab", "abc")
OWNED = ("a", "ab", "ba", "c", "q", "zz", "abab", "abcabcab")


def some_script(dice):
    """A plain script of up to 16 commands, in which much hangs together."""
    sought = [dice.one_of(SOUGHT) for _ in range(1 + dice.below(3))]
    return [some_command(dice, sought) for _ in range(dice.below(12))]


def some_command(dice, sought):
    number = 1 + dice.below(26)
    address = dice.one_of([
        ("all",), ("all",), ("last",), ("line", number), ("from", number, number + dice.below(30)),
        ("has", dice.one_of(sought)), ("has", dice.one_of(sought)), ("has", dice.one_of(sought)),
        ("is", dice.one_of(OWNED)), ("is", dice.one_of(OWNED)),
    ])
    deed = dice.one_of([
        ("delete",), ("stop",), ("before", dice.one_of(OWNED)), ("after", dice.one_of(OWNED)),
        ("change", dice.one_of(OWNED)), ("change", dice.one_of(OWNED)), ("skip", 1 + dice.below(4)),
    ])
    return (dice.one_of((0, 0, 0, 1, 1, 2, 3)), address, deed)


def written(script):
    """The one form of a script of the second account."""
    rows = []
    for nots, address, deed in script:
        words = [str(word) for word in deed] + [";\n"]
        if address[0] == "from":
            address = ("from", address[1], "to", address[2])
        if nots or address != ("all",):
            words = ["if"] + ["not"] * nots + [str(word) for word in address] + words
        rows.append(" ".join(words))
    return "".join(rows)


def truth(nots, address, line, number, last):
    value = {
        "all": lambda: True,
        "last": lambda: bool(last),
        "line": lambda: address[1] == number,
        "from": lambda: number in range(address[1], address[2] + 1),
        "has": lambda: line.find(address[1]) >= 0,
        "is": lambda: line == address[1],
    }[address[0]]()
    for _ in range(nots):
        value = not value
    return value


def outcome(script, line, number, last, never=None):
    """The commands done, and the lines that come; one command may be told never to be done."""
    done, ahead, behind = [], [], []
    at = -1
    while at + 1 < len(script):
        at += 1
        nots, address, deed = script[at]
        if at == never or not truth(nots, address, line, number, last):
            continue
        done.append(at)
        if deed[0] == "delete":
            return done, ahead + behind
        if deed[0] == "stop":
            break
        if deed[0] == "skip":
            at += deed[1]
        elif deed[0] == "change":
            line = deed[1]
        else:
            (ahead if deed[0] == "before" else behind).append(deed[1])
    return done, ahead + [line] + behind


def whole_result(script, text):
    """What comes of a whole text, with all its lines in one list from the first on."""
    result = []
    for number, line in enumerate(text, start=1):
        spot = len(result)
        result.append(line)
        left_out = 0
        for nots, address, deed in script:
            if left_out:
                left_out -= 1
            elif truth(nots, address, result[spot], number, number == len(text)):
                if deed[0] == "delete":
                    result.pop(spot)
                if deed[0] in ("delete", "stop"):
                    break
                if deed[0] == "before":
                    result.insert(spot, deed[1])
                    spot += 1
                elif deed[0] == "after":
                    result.append(deed[1])
                elif deed[0] == "change":
                    result[spot] = deed[1]
                else:
                    left_out = deed[1]
    return result


def comes_the_same(script, other, lines):
    """Whether the same comes of each of these lines at every place."""
    return all([outcome(script, line, *place)[1] == outcome(other, line, *place)[1]
                for place in PLACES for line in lines])


def pruned(script, kinds):
    """The script without its idle commands; the kinds of the whole one serve all the way."""
    at = 0
    while at < len(script):
        less = script[:at] + script[at + 1:]
        if comes_the_same(script, less, kinds):
            script, at = less, 0
        else:
            at += 1
    return script


def words_of(script):
    """The looked-for words and the own words of a script of the second account."""
    sought, own = [], []
    for _, address, deed in script:
        if address[0] == "has" and address[1] not in sought:
            sought.append(address[1])
        for tokens, names in ((address, ("is",)), (deed, ("before", "after", "change"))):
            if tokens[0] in names and tokens[1] not in own:
                own.append(tokens[1])
    return sought, own


def kind_of_line(script, kinds, line):
    """The kind of a line, as the first promise tells it."""
    sought, own = words_of(script)
    if line in own or line == "":
        return line
    had = [word for word in sought if word in line]
    fitting = [kind for kind in kinds[len(own) + 1:] if [word for word in sought if word in kind] == had]
    assert len(fitting) == 1, (line, fitting)
    return fitting[0]


def some_line(dice, script):
    """A line of at most 16 letters, often one on which the script looks."""
    sought, own = words_of(script)
    pieces = sought + own + ["a", "b", "c", "d", "z", ""]
    if dice.below(4) == 0:
        return dice.one_of(pieces)
    return "".join([dice.one_of(pieces) for _ in range(dice.below(7))])[:dice.one_of((3, 8, 9, 16))]
