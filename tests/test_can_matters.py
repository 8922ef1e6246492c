"""Where a command is done, and where it makes a difference."""

import unittest

from calling import CAN, MATTERS, after_load, first, many

ALWAYS = "aaaaaaaaa"


class Case(unittest.TestCase):

    def told(self, call, text, answers):
        """One answer for each command: a place and a kind, or None."""
        found = many(text, call, list(range(len(answers))))
        for number, answer in enumerate(answers):
            self.assertEqual(found[number], [0] if answer is None else first(*answer), (text, number))


class Can(Case):

    def test_the_first_kind(self):
        self.told(CAN, "before x ;", [(1, 0, "x")])
        self.told(CAN, "stop ;", [(1, 0, "")])
        self.told(CAN, "if has b stop ;", [(1, 0, "baaaaaaaa")])
        self.told(CAN, "if not has b stop ;", [(1, 0, "")])
        self.told(CAN, "if is b stop ;", [(1, 0, "b")])
        self.told(CAN, "if not is b stop ;", [(1, 0, "")])
        self.told(CAN, "if not is b before c ; if not is b before b ;", [(1, 0, "c"), (1, 0, "c")])

    def test_places_come_ahead_of_kinds(self):
        # On the first kind it is done from line 3 on only, on the second at once.
        self.told(CAN, "if is b skip 1 ; if not from 1 to 2 skip 1 ; if is b before c ; delete ;",
                  [(1, 0, "b"), (3, 0, "c"), (1, 0, "b"), (1, 0, "b")])
        self.told(CAN, "if is b skip 2 ; if not has q skip 1 ; if is b stop ; if not line 1 stop ;",
                  [(1, 0, "b"), (1, 0, ""), None, (2, 0, "b")])
        self.told(CAN, "if from 1 to 4 skip 1 ; if is b before c ; if not from 1 to 2 skip 1 ; if is c before c ;",
                  [(1, 0, "b"), (5, 0, "b"), (3, 0, "b"), (1, 0, "c")])

    def test_a_line_number(self):
        self.told(CAN, "if line 1 stop ; if line 2 stop ; if line 23 stop ;", [(1, 0, ""), (2, 0, ""), (23, 0, "")])
        self.told(CAN, "if from 5 to 9 stop ; if not from 1 to 9 stop ;", [(5, 0, ""), (10, 0, "")])

    def test_the_last_line(self):
        self.told(CAN, "if last stop ;", [(1, 1, "")])
        self.told(CAN, "if not last stop ;", [(1, 0, "")])
        self.told(CAN, "if line 1 skip 1 ; if last before x ;", [(1, 0, "x"), (2, 1, "x")])
        self.told(CAN, "if not last skip 1 ; if line 3 before x ;", [(1, 0, "x"), (3, 1, "x")])

    def test_line_24_is_always_the_last(self):
        self.told(CAN, "if line 24 stop ;", [(24, 1, "")])
        self.told(CAN, "if last stop ; if line 24 before x ;", [(1, 1, "x"), None])
        self.told(CAN, "if last stop ; if line 23 before x ;", [(1, 1, "x"), (23, 0, "x")])
        self.told(CAN, "if from 1 to 23 stop ; if last skip 1 ; before x ;", [(1, 0, "x"), (24, 1, "x"), None])

    def test_line_25_never_comes(self):
        self.told(CAN, "if line 25 stop ; if line 99 stop ; if from 25 to 99 stop ;", [None, None, None])
        self.told(CAN, "if from 24 to 99 stop ; if not from 1 to 24 stop ; if not line 25 stop ;",
                  [(24, 1, ""), None, (1, 0, "")])

    def test_never(self):
        self.told(CAN, "if not all stop ; if not not not all stop ; if not not all stop ; stop ;",
                  [None, None, (1, 0, ""), None])

    def test_behind_delete_and_stop(self):
        self.told(CAN, "delete ; stop ; before x ;", [(1, 0, "x"), None, None])
        self.told(CAN, "stop ; delete ; before x ;", [(1, 0, "x"), None, None])
        self.told(CAN, "if has b delete ; if has b before x ; if has c stop ; before y ;",
                  [(1, 0, "baaaaaaaa"), None, (1, 0, "caaaaaaaa"), (1, 0, "x")])
        self.told(CAN, "if has bb stop ; if has b before x ; if has bb before y ;",
                  [(1, 0, "bbaaaaaaa"), (1, 0, "baaaaaaaa"), None])

    def test_behind_skip(self):
        self.told(CAN, "skip 1 ; stop ; before x ;", [(1, 0, "x"), None, (1, 0, "x")])
        self.told(CAN, "skip 2 ; stop ; stop ; before x ;", [(1, 0, "x"), None, None, (1, 0, "x")])
        self.told(CAN, "skip 9 ; stop ;", [(1, 0, ""), None])
        self.told(CAN, "skip 9 ;" + "stop ;" * 9 + "before x ;", [(1, 0, "x")] + [None] * 9 + [(1, 0, "x")])

    def test_a_skip_leaves_out_a_skip(self):
        self.told(CAN, "skip 1 ; skip 5 ; before x ; stop ;", [(1, 0, "x"), None, (1, 0, "x"), (1, 0, "x")])

    def test_a_skip_counts_commands_that_would_not_be_done(self):
        self.told(CAN, "skip 1 ; if not all stop ; before x ;", [(1, 0, "x"), None, (1, 0, "x")])

    def test_behind_change(self):
        self.told(CAN, "change x ; if is y stop ; if is x stop ;", [(1, 0, "x"), None, (1, 0, "x")])
        self.told(CAN, "change bx ; if has b delete ; before y ;", [(1, 0, "bx"), (1, 0, "bx"), None])
        self.told(CAN, "if has b change c ; if has b before x ; if is c before y ;",
                  [(1, 0, "baaaaaaaa"), None, (1, 0, "c")])
        self.told(CAN, "if is c change d ; if is c before x ; if is d change c ; if is c before y ;",
                  [(1, 0, "c"), None, (1, 0, "c"), (1, 0, "c")])

    def test_letters_right_behind_one_another(self):
        self.told(CAN, "change axb ; if has ab delete ; before y ;", [(1, 0, "axb"), None, (1, 0, "axb")])


class Matters(Case):

    def test_the_first_kind(self):
        self.told(MATTERS, "before x ;", [(1, 0, "x")])
        self.told(MATTERS, "after x ;", [(1, 0, "x")])
        self.told(MATTERS, "change x ;", [(1, 0, "")])
        self.told(MATTERS, "delete ;", [(1, 0, "")])
        self.told(MATTERS, "if has b delete ;", [(1, 0, "baaaaaaaa")])

    def test_places_come_ahead_of_kinds(self):
        self.told(MATTERS, "if is c skip 1 ; if not line 1 skip 1 ; if not is b before b ;",
                  [(2, 0, "c"), (2, 0, ""), (1, 0, "c")])
        self.told(MATTERS, "if line 7 delete ; if last before x ;", [(7, 0, "x"), (1, 1, "x")])
        self.told(MATTERS, "if not last stop ; if line 24 delete ; if line 25 delete ;",
                  [None, (24, 1, ""), None])

    def test_stop_and_skip(self):
        self.told(MATTERS, "stop ;", [None])
        self.told(MATTERS, "stop ; before x ;", [(1, 0, "x"), None])
        self.told(MATTERS, "skip 1 ; before x ;", [(1, 0, "x"), None])
        self.told(MATTERS, "skip 1 ; if line 25 before x ;", [None, None])
        self.told(MATTERS, "skip 1 ; skip 1 ; before x ;", [(1, 0, "x"), None, (1, 0, "x")])
        self.told(MATTERS, "before x ; stop ; delete ; stop ;", [(1, 0, "x"), (1, 0, "x"), None, None])

    def test_a_skip_counts_as_before(self):
        # Were the stop taken out, the skip would leave out the command behind it.
        self.told(MATTERS, "skip 1 ; stop ; before x ;", [(1, 0, "x"), None, (1, 0, "x")])
        self.told(MATTERS, "skip 2 ; before y ; before z ; before x ;", [(1, 0, "y"), None, None, (1, 0, "y")])

    def test_lines_that_come_the_same(self):
        self.told(MATTERS, "if is x delete ; if is x stop ; before x ;", [(1, 0, "x"), None, (1, 0, "")])
        self.told(MATTERS, "if not is x stop ; before x ; after x ;", [(1, 0, ""), (1, 0, "x"), (1, 0, "x")])
        self.told(MATTERS, "if not is x skip 2 ; before x ; delete ;", [(1, 0, ""), (1, 0, "x"), (1, 0, "x")])
        self.told(MATTERS, "before x ; if is x stop ; change x ;", [(1, 0, "x"), None, (1, 0, "")])
        self.told(MATTERS, "if is x stop ; if has x stop ; before y ; if not has x skip 1 ; stop ;",
                  [None, (1, 0, "xaaaaaaaa"), (1, 0, "y"), None, None])

    def test_put_by_another(self):
        # Of x come x and x, whether the one puts an x behind it or the other one ahead of it.
        self.told(MATTERS, "if not is x stop ; if is x skip 2 ; after x ; stop ; before x ;",
                  [(1, 0, ""), None, None, None, (1, 0, "x")])
        # Of x comes x: itself, or, without the skip, the one put ahead of the deleted line.
        self.told(MATTERS, "if not is x stop ; skip 2 ; before x ; delete ; stop ;",
                  [None, None, None, None, None])

    def test_change_to_itself(self):
        self.told(MATTERS, "if is x change x ;", [None])
        self.told(MATTERS, "change x ; change x ;", [None, None])
        self.told(MATTERS, "change x ; change y ;", [None, (1, 0, "x")])
        self.told(MATTERS, "if is x change y ; if is y change x ;", [None, (1, 0, "x")])

    def test_order_of_lines_put(self):
        self.told(MATTERS, "before x ; before y ; after x ; after y ;", [(1, 0, "x")] * 4)

    def test_none(self):
        self.told(MATTERS, "if line 25 delete ; if not all delete ; if last skip 9 ;", [None, None, None])


class Refused(unittest.TestCase):

    def test_no_such_command(self):
        for call in (CAN, MATTERS):
            for number in (-1, -2, 2, 3, 16, 10 ** 18, -10 ** 18):
                self.assertEqual(after_load("stop ; stop ;", [call, number]), [[-2]], number)
            self.assertEqual(after_load("", [call, 0], [call, -1]), [[-2], [-2]])
            self.assertEqual(after_load("delete ;" * 16, [call, 15], [call, 16]), [[0], [-2]])


if __name__ == "__main__":
    unittest.main()
