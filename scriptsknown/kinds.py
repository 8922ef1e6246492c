"""Plain scripts, and the kinds of lines that tell everything about them."""

from scriptsknown.tokens import LETTERS

DEEDS_NOT_PLAIN = ("swap", "first", "keep", "bring", "trade")
MOST_LOOKED_FOR = 4
MOST_LETTERS = 16
LONGEST_LINE = 16
LEAST_FILLED = 9


def is_plain(commands):
    for command in commands:
        if command.deed.name in DEEDS_NOT_PLAIN:
            return False
    words = looked_for(commands)
    return len(words) <= MOST_LOOKED_FOR and len("".join(words)) <= MOST_LETTERS


def looked_for(commands):
    """The words behind has, each once."""
    words = {}
    for command in commands:
        if command.address.name == "has":
            words[command.address.letters] = True
    return list(words)


def own_words(commands):
    """The words behind is, before, after and change, each once, in their order."""
    words = {}
    for command in commands:
        if command.address.name == "is":
            words[command.address.letters] = True
        if command.deed.name in ("before", "after", "change"):
            words[command.deed.letters] = True
    return list(words)


def kinds_of(commands):
    """The kinds of a plain script, in order."""
    words = looked_for(commands)
    filler = free_letter(words)
    # No own word has 9 letters, so that a filled line is none of them.
    filled = [line.ljust(LEAST_FILLED, filler) for line in first_lines(words)]
    return own_words(commands) + [""] + filled


def free_letter(words):
    """The first letter that stands in none of the words."""
    # Words of at most 16 letters together always leave one free.
    taken = "".join(words)
    return [letter for letter in LETTERS if letter not in taken][0]


def first_lines(words):
    """For each set of words that is all that some line has, the first such line; in order.

    What further letters bring depends on two things alone: the longest end of the line with
    which one of the words begins, and the words had so far. Of the lines for which these are
    the same, only the first goes on; as lines come by length and by letters, it is found first.
    """
    beginnings = beginnings_of(words)
    seen = {("", ()): True}
    lines = {(): ""}
    longest = [("", "", ())]
    for length in range(LONGEST_LINE):
        longer = []
        for line, end, had in longest:
            for letter in LETTERS:
                more = words_had(words, had, end + letter)
                rest = longest_beginning(end + letter, beginnings)
                if (rest, more) not in seen:
                    seen[(rest, more)] = True
                    longer.append((line + letter, rest, more))
                    lines.setdefault(more, line + letter)
        longest = longer
    return list(lines.values())


def beginnings_of(words):
    """All with which one of the words begins and then goes on; the empty text among them."""
    beginnings = {"": True}
    for word in words:
        for length in range(len(word)):
            beginnings[word[:length]] = True
    return beginnings


def words_had(words, had, end):
    """Those of the words, in their order, that were had before or stand at this end."""
    return tuple([word for word in words if word in had or end.endswith(word)])


def longest_beginning(end, beginnings):
    """The longest end of this end that is one of the beginnings."""
    start = 0
    while end[start:] not in beginnings:
        start += 1
    return end[start:]
