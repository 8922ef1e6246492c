"""The promises, held on many scripts and lines against a second account of what scripts do."""

import unittest

from calling import (CAN, IDLE, LINES, MATTERS, PLACES, PRUNE, SHOWN, TURN, Dice, after_load, as_bytes, comes_the_same,
                     first, kind_of_line, kind_texts, many, outcome, pruned, safe, shown_text, some_line, some_script,
                     whole_result, words_of, written)
from scriptsknown.reading import commands_of
from scriptsknown.runs import line_run

SCRIPTS = 60
LINES_EACH = 40
MOST_COMING = 60


def cases(seed):
    """Scripts of both accounts, with their texts, and dice to draw lines with."""
    dice = Dice(seed)
    for _ in range(SCRIPTS):
        script = some_script(dice)
        text = written(script)
        yield script, text, commands_of(as_bytes(text)), dice


def itself_comes(script, line, place):
    """Whether the line comes and is as it was: told by a script in which each line that is put is marked."""
    marked = [(nots, address, (deed[0], "+") if deed[0] in ("before", "after") else deed)
              for nots, address, deed in script]
    return [come for come in outcome(marked, line, *place)[1] if come != "+"] == [line]


class SameOnItsKind(unittest.TestCase):

    def test_done(self):
        for script, text, commands, dice in cases(1):
            kinds = kind_texts(text)
            for _ in range(LINES_EACH):
                line, place = some_line(dice, script), dice.one_of(PLACES)
                kind = kind_of_line(script, kinds, line)
                done = line_run(commands, line, place).done
                self.assertEqual(done, line_run(commands, kind, place).done, (text, line, kind, place))
                self.assertEqual(done, outcome(script, line, *place)[0], (text, line, place))

    def test_every_line_has_one_kind(self):
        for script, text, commands, dice in cases(2):
            sought, own = words_of(script)
            kinds = kind_texts(text)
            self.assertEqual(kinds[:len(own) + 1], own + [""])
            self.assertEqual(len(kinds), len(set(kinds)))
            for kind in kinds[len(own) + 1:]:
                self.assertIn(len(kind), range(9, 17))
                self.assertEqual(kind_of_line(script, kinds, kind), kind)


class ToldAndNotTold(unittest.TestCase):

    def expected(self, kinds, unlike, found=1):
        """The first place and kind behind this number; the other one of 0 and 1 if there is none."""
        for place in PLACES:
            for kind in kinds:
                if unlike(kind, place):
                    return first(place[0], place[1], kind, ahead=found)
        return [1 - found]

    def test_can(self):
        for script, text, commands, dice in cases(3):
            kinds = kind_texts(text)
            told = many(text, CAN, list(range(len(script))))
            for number in range(len(script)):
                def done(line, place):
                    return number in outcome(script, line, *place)[0]
                self.assertEqual(told[number], self.expected(kinds, done), (text, number))
                if told[number] == [0]:
                    for _ in range(LINES_EACH):
                        self.assertFalse(done(some_line(dice, script), dice.one_of(PLACES)), (text, number))

    def test_matters(self):
        for script, text, commands, dice in cases(4):
            kinds = kind_texts(text)
            told = many(text, MATTERS, list(range(len(script))))
            for number in range(len(script)):
                def unlike(line, place):
                    return outcome(script, line, *place)[1] != outcome(script, line, *place, never=number)[1]
                self.assertEqual(told[number], self.expected(kinds, unlike), (text, number))
                if told[number] == [0]:
                    for _ in range(LINES_EACH):
                        self.assertFalse(unlike(some_line(dice, script), dice.one_of(PLACES)), (text, number))

    def test_turn(self):
        for script, text, commands, dice in cases(9):
            kinds = kind_texts(text)
            told = many(text, TURN, list(range(len(script))))
            for number in range(len(script) - 1):
                other = script[:number] + [script[number + 1], script[number]] + script[number + 2:]

                def unlike(line, place):
                    return outcome(script, line, *place)[1] != outcome(other, line, *place)[1]
                self.assertEqual(told[number], self.expected(kinds, unlike, found=0), (text, number))
                if told[number] == [1]:
                    for _ in range(LINES_EACH):
                        self.assertFalse(unlike(some_line(dice, script), dice.one_of(PLACES)), (text, number))
            if script:
                self.assertEqual(told[-1], [-2])

    def test_safe(self):
        for script, text, commands, dice in cases(10):
            for line in [some_line(dice, script) for _ in range(9)]:
                stay = [place for place in PLACES if itself_comes(script, line, place)]
                gone = [place for place in PLACES if place not in stay]
                told = [0] + list(gone[0]) if gone else [1]
                self.assertEqual(after_load(text, safe(line)), [told], (text, line))

    def test_what_comes(self):
        for script, text, commands, dice in cases(5):
            for _ in range(LINES_EACH):
                line, place = some_line(dice, script), dice.one_of(PLACES)
                self.assertEqual(line_run(commands, line, place).coming(), outcome(script, line, *place)[1],
                                 (text, line, place))


class NothingElseWithoutIdle(unittest.TestCase):

    def test_idle(self):
        for script, text, commands, dice in cases(11):
            kinds = kind_texts(text)
            told = after_load(text, [IDLE])[0]
            self.assertEqual(told[0], len(told) - 1)
            numbers = [number for number in range(len(script))
                       if all([outcome(script, kind, *place)[1] == outcome(script, kind, *place, never=number)[1]
                               for place in PLACES for kind in kinds])]
            self.assertEqual(told[1:], numbers, text)
            for number in numbers:
                for _ in range(LINES_EACH):
                    line, place = some_line(dice, script), dice.one_of(PLACES)
                    self.assertEqual(outcome(script, line, *place)[1], outcome(script, line, *place, never=number)[1],
                                     (text, number, line, place))

    def test_prune(self):
        several = 0
        for script, text, commands, dice in cases(12):
            script = [command for command in script if command[2][0] != "skip"]
            text = written(script)
            left = pruned(script, kind_texts(text))
            count, form, idle = after_load(text, [PRUNE], [SHOWN], [IDLE])
            self.assertEqual(bytes(form[1:]).decode("ascii"), written(left), text)
            self.assertEqual((count, idle), ([len(left)], [0]), text)
            self.assertTrue(comes_the_same(script, left, [some_line(dice, script) for _ in range(LINES_EACH)]), text)
            several += len(left) + 1 < len(script)
        self.assertGreater(several, SCRIPTS // 4)

    def test_prune_with_a_skip(self):
        for script, text, commands, dice in cases(13):
            if [command for command in script if command[2][0] == "skip"]:
                self.assertEqual(after_load(text, [PRUNE], [SHOWN]), [[-3], [len(text)] + as_bytes(text)])


class OnlyOnItsNumbers(unittest.TestCase):

    def test_lines(self):
        for script, text, commands, dice in cases(14):
            kinds = kind_texts(text)
            told = many(text, LINES, list(range(len(script))))
            for number in range(len(script)):
                numbers = sorted({place[0] for place in PLACES for kind in kinds
                                  if number in outcome(script, kind, *place)[0]})
                self.assertEqual(told[number], [len(numbers)] + numbers, (text, number))
            for _ in range(LINES_EACH):
                line, place = some_line(dice, script), dice.one_of(PLACES)
                for number in outcome(script, line, *place)[0]:
                    self.assertIn(place[0], told[number][1:], (text, number, line, place))

    def test_never_told_done_out_of_its_numbers(self):
        for low, high in ((1, 1), (3, 3), (7, 12), (23, 23), (23, 24), (24, 24), (24, 99), (2, 99)):
            text = f"if not from {low} to {high} stop ; before w ;"
            commands = commands_of(as_bytes(text))
            for place in PLACES:
                inside = place[0] >= low and place[0] <= high
                self.assertEqual(line_run(commands, "q", place).done, [1] if inside else [0])
            last = 1 if low == 24 else 0
            self.assertEqual(after_load(text, [CAN, 1]), [first(low, last, "w")])

    def test_no_line_number_at_all(self):
        self.assertEqual(after_load("if from 25 to 99 before w ;", [CAN, 0]), [[0]])


class LineByLine(unittest.TestCase):

    def test_the_result(self):
        for script, text, commands, dice in cases(6):
            for length in (0, 1, 2, 7, 24):
                lines = [some_line(dice, script) for _ in range(length)]
                result = []
                for at, line in enumerate(lines):
                    result += line_run(commands, line, (at + 1, int(at + 1 == length))).coming()
                if len(result) <= MOST_COMING:
                    self.assertEqual(result, whole_result(script, lines), (text, lines))


class FormStays(unittest.TestCase):

    def test_form(self):
        for script, text, commands, dice in cases(8):
            if script:
                sign = dice.one_of((";", "\t;# ; stop\n", " ; "))
                loose = text.replace(" ;\n", "!").replace(" ", "\n \t").replace("!", sign)
                self.assertEqual(shown_text(loose), text)


if __name__ == "__main__":
    unittest.main()
