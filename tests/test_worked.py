"""The document's worked example."""

import unittest

from calling import (CAN, IDLE, KINDS, LINES, MATTERS, PRUNE, SHOWN, TURN, after_load, answered, first, load,
                     parted, safe)
from scriptsknown.scripts import answers

WORKED = ("if has ab delete ; if is ab change c ; if has a before q ; if not has a before q ; "
          "if line 30 stop ; after z ;")


class Worked(unittest.TestCase):

    def test_load(self):
        self.assertEqual(answers(load(WORKED)), [3, 1, 6, 8])

    def test_kinds(self):
        kinds = ["ab", "c", "q", "z", "", "ccccccccc", "acccccccc", "abccccccc"]
        told = [8]
        for kind in kinds:
            told += [len(kind)] + [ord(letter) for letter in kind]
        self.assertEqual(answers(load(WORKED) + [KINDS]), [3, 1, 6, 8, len(told)] + told)

    def test_can(self):
        self.assertEqual(
            answers(load(WORKED) + [CAN, 0, CAN, 1, CAN, 4]),
            [3, 1, 6, 8, 6, 1, 1, 0, 2, 97, 98, 1, 0, 1, 0])

    def test_can_further(self):
        self.assertEqual(after_load(WORKED, [CAN, 2], [CAN, 3], [CAN, 5]),
                         [first(1, 0, "acccccccc"), first(1, 0, "c"), first(1, 0, "c")])

    def test_matters(self):
        self.assertEqual(answers(load(WORKED) + [MATTERS, 5]), [3, 1, 6, 8, 5, 1, 1, 0, 1, 99])

    def test_matters_further(self):
        self.assertEqual(
            after_load(WORKED, [MATTERS, 0], [MATTERS, 1], [MATTERS, 2], [MATTERS, 3], [MATTERS, 4]),
            [first(1, 0, "ab"), [0], first(1, 0, "acccccccc"), first(1, 0, "c"), [0]])

    def test_shown(self):
        form = WORKED.replace("; ", ";\n") + "\n"
        told = [len(form)] + list(form.encode())
        self.assertEqual(answered(load(WORKED), [SHOWN])[1], told)

    def test_idle(self):
        self.assertEqual(answers(load(WORKED) + [IDLE]), [3, 1, 6, 8, 3, 2, 1, 4])

    def test_turn(self):
        self.assertEqual(answers(load(WORKED) + [TURN, 2, TURN, 0, TURN, 5]),
                         [3, 1, 6, 8, 1, 1, 6, 0, 1, 0, 2, 97, 98, 1, -2])

    def test_turn_further(self):
        self.assertEqual(after_load(WORKED, [TURN, 1], [TURN, 3], [TURN, 4]), [[1], [1], [1]])

    def test_lines(self):
        self.assertEqual(answers(load(WORKED) + [LINES, 4]), [3, 1, 6, 8, 1, 0])

    def test_lines_further(self):
        always = [24] + list(range(1, 25))
        self.assertEqual(after_load(WORKED, [LINES, 0], [LINES, 1], [LINES, 2], [LINES, 3], [LINES, 5]),
                         [always, [0], always, always, always])

    def test_safe(self):
        self.assertEqual(answers(load(WORKED) + safe("c") + safe("ab")), [3, 1, 6, 8, 1, 1, 3, 0, 1, 0])

    def test_prune(self):
        self.assertEqual(answers(load(WORKED) + [PRUNE, IDLE]), [3, 1, 6, 8, 1, 4, 1, 0])

    def test_prune_further(self):
        form = "if has ab delete ;\nif has a before q ;\nif not has a before q ;\nafter z ;\n"
        found = after_load(WORKED, [PRUNE], [SHOWN], [KINDS], [CAN, 3], [TURN, 1], [TURN, 3])
        self.assertEqual(found[1], [len(form)] + list(form.encode()))
        self.assertEqual(found[2][:5], [6, 1, 113, 1, 122])
        self.assertEqual(found[3:], [first(1, 0, "q"), [1], [-2]])

    def test_the_whole_in_its_order(self):
        # A list has at most ten calls; prune and idle stand behind those that speak of all six commands.
        told = answers(load(WORKED) + [CAN, 0, CAN, 1, CAN, 4, MATTERS, 5, IDLE, TURN, 2, LINES, 4, PRUNE, IDLE])
        self.assertEqual(parted(told), [
            [1, 6, 8], [1, 1, 0, 2, 97, 98], [0], [0], [1, 1, 0, 1, 99], [2, 1, 4], [1], [0], [4], [0]])
        told = answers(load(WORKED) + [KINDS, TURN, 2, TURN, 0, TURN, 5] + safe("c") + safe("ab") + [PRUNE, IDLE])
        self.assertEqual(parted(told)[2:], [[1], [0, 1, 0, 2, 97, 98], [-2], [1], [0, 1, 0], [4], [0]])


if __name__ == "__main__":
    unittest.main()
