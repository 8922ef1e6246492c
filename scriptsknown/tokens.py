"""The tokens of a script: words, numbers, the one sign and the end."""

from scriptsknown.faults import Fault

LETTERS = "abcdefghijklmnopqrstuvwxyz"
BLANKS = (32, 9, 10)
LINE_END = 10
REMARK = 35
SIGN = 59
FIRST_LETTER = 97
FINAL_LETTER = 122
FIRST_DIGIT = 48
FINAL_DIGIT = 57
LONGEST_WORD = 8
GREATEST_NUMBER = 1000000000
LONGEST_NUMBER = 10


class Token:
    """A token: "word", "number", "sign" or "end", and where it stands."""

    def __init__(self, kind, value, place, behind):
        self.kind = kind
        self.value = value
        self.place = place
        self.behind = behind


def tokens_of(script):
    """All tokens of a list of bytes, the end as the last of them."""
    tokens = []
    at = behind_blanks(script, 0)
    while at < len(script):
        token = token_at(script, at)
        tokens.append(token)
        at = behind_blanks(script, token.behind)
    tokens.append(Token("end", "", len(script), len(script)))
    return tokens


def behind_blanks(script, at):
    """The first offset from at on where neither a blank nor a remark is."""
    while at < len(script):
        if script[at] == REMARK:
            at = behind_remark(script, at)
        elif script[at] in BLANKS:
            at += 1
        else:
            break
    return at


def behind_remark(script, at):
    while at < len(script) and script[at] != LINE_END:
        at += 1
    return at


def token_at(script, at):
    byte = script[at]
    if byte == SIGN:
        return Token("sign", ";", at, at + 1)
    if is_letter(byte):
        return word_at(script, at)
    if is_digit(byte):
        return number_at(script, at)
    raise Fault(2, at)


def is_letter(byte):
    return byte >= FIRST_LETTER and byte <= FINAL_LETTER


def is_digit(byte):
    return byte >= FIRST_DIGIT and byte <= FINAL_DIGIT


def word_at(script, at):
    behind = at
    while behind < len(script) and is_letter(script[behind]):
        behind += 1
    if behind - at > LONGEST_WORD:
        raise Fault(2, at)
    return Token("word", text_of(script[at:behind]), at, behind)


def text_of(letters):
    return "".join([LETTERS[byte - FIRST_LETTER] for byte in letters])


def number_at(script, at):
    behind = at
    while behind < len(script) and is_digit(script[behind]):
        behind += 1
    # The length is looked at first, so that no huge number is ever made.
    if behind - at > LONGEST_NUMBER:
        raise Fault(2, at)
    if behind - at > 1 and script[at] == FIRST_DIGIT:
        raise Fault(2, at)
    value = value_of(script[at:behind])
    if value > GREATEST_NUMBER:
        raise Fault(2, at)
    return Token("number", value, at, behind)


def value_of(digits):
    value = 0
    for byte in digits:
        value = value * 10 + byte - FIRST_DIGIT
    return value
