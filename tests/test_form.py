"""The one form."""

import unittest

from calling import SHOWN, after_load, as_bytes, shown_text
from scriptsknown.commands import form_of
from scriptsknown.reading import commands_of


def form(text):
    """The one form of any script that is right, plain or not."""
    return form_of(commands_of(as_bytes(text)))


class OneForm(unittest.TestCase):

    def test_empty_script(self):
        self.assertEqual(after_load("", [SHOWN]), [[0]])
        self.assertEqual(after_load(" # nothing", [SHOWN]), [[0]])

    def test_told_number_by_number(self):
        self.assertEqual(after_load("stop;", [SHOWN]), [[7, 115, 116, 111, 112, 32, 59, 10]])

    def test_each_address(self):
        for address in ("line 1", "line 99", "from 1 to 1", "from 7 to 42", "last", "has ab", "is ab", "not all",
                        "not line 5", "not not from 2 to 3", "not not not last", "not has abcdefgh", "not not is z",
                        "not not all", "not not not all"):
            text = "if " + address + " delete ;\n"
            self.assertEqual(shown_text(text), text)

    def test_all_left_out(self):
        self.assertEqual(shown_text("if all delete;"), "delete ;\n")
        self.assertEqual(shown_text("delete;"), "delete ;\n")
        self.assertEqual(shown_text("if all skip 2;stop;if all before a;"), "skip 2 ;\nstop ;\nbefore a ;\n")

    def test_each_deed(self):
        for deed in ("delete", "before ab", "after ab", "change abcdefgh", "skip 1", "skip 9", "stop"):
            self.assertEqual(shown_text("if last " + deed + ";"), "if last " + deed + " ;\n")
            self.assertEqual(shown_text(deed + ";"), deed + " ;\n")

    def test_each_deed_that_is_not_plain(self):
        for deed in ("swap a b", "swap ab none", "first a b", "first ab none", "keep", "bring", "trade"):
            self.assertEqual(form("if  all\n" + deed + ";"), deed + " ;\n")
            self.assertEqual(form("if is x " + deed + ";"), "if is x " + deed + " ;\n")

    def test_form_of_the_form(self):
        text = "if\tnot  not has\nab#\nbefore\tc;stop;if all after d;if from 3to 4skip 2;"
        once = shown_text(text)
        self.assertEqual(once, "if not not has ab before c ;\nstop ;\nafter d ;\nif from 3 to 4 skip 2 ;\n")
        self.assertEqual(shown_text(once), once)

    def test_commands_keep_their_order(self):
        text = "".join(["before " + letter + " ;\n" for letter in "ponmlkjihgfedcba"])
        self.assertEqual(shown_text(text.replace("\n", "")), text)


if __name__ == "__main__":
    unittest.main()
