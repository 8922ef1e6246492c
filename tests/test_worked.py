"""The document's worked example."""

import unittest

from calling import CAN, KINDS, MATTERS, SHOWN, after_load, answered, first, load
from scriptsknown.scripts import answers

WORKED = ("if has ab delete ; if is ab change c ; if has a before q ; if not has a before q ; "
          "if line 30 stop ; after z ;")


class Worked(unittest.TestCase):

    def test_load(self):
        self.assertEqual(answers(load(WORKED)), [3, 1, 6, 8])

    def test_kinds(self):
        kinds = ["ab", "c", "q", "z", "", "ccccccccc", "acccccccc", "abccccccc"]
        told = [8]
        for kind in kinds:
            told += [len(kind)] + [ord(letter) for letter in kind]
        self.assertEqual(answers(load(WORKED) + [KINDS]), [3, 1, 6, 8, len(told)] + told)

    def test_can(self):
        self.assertEqual(
            answers(load(WORKED) + [CAN, 0, CAN, 1, CAN, 4]),
            [3, 1, 6, 8, 6, 1, 1, 0, 2, 97, 98, 1, 0, 1, 0])

    def test_can_further(self):
        self.assertEqual(after_load(WORKED, [CAN, 2], [CAN, 3], [CAN, 5]),
                         [first(1, 0, "acccccccc"), first(1, 0, "c"), first(1, 0, "c")])

    def test_matters(self):
        self.assertEqual(answers(load(WORKED) + [MATTERS, 5]), [3, 1, 6, 8, 5, 1, 1, 0, 1, 99])

    def test_matters_further(self):
        self.assertEqual(
            after_load(WORKED, [MATTERS, 0], [MATTERS, 1], [MATTERS, 2], [MATTERS, 3], [MATTERS, 4]),
            [first(1, 0, "ab"), [0], first(1, 0, "acccccccc"), first(1, 0, "c"), [0]])

    def test_shown(self):
        form = WORKED.replace("; ", ";\n") + "\n"
        told = [len(form)] + list(form.encode())
        self.assertEqual(answered(load(WORKED), [SHOWN])[1], told)


if __name__ == "__main__":
    unittest.main()
