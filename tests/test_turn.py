"""Which commands may change places with the next one."""

import unittest

from calling import IDLE, SHOWN, TURN, after_load, first, many


class Turn(unittest.TestCase):

    def check(self, text, *answers):
        """One answer for each command but the last: True, or a place and a kind."""
        found = many(text, TURN, list(range(len(answers))))
        for number, answer in enumerate(answers):
            self.assertEqual(found[number], [1] if answer is True else first(*answer, ahead=0), (text, number))

    def test_they_may(self):
        self.check("before x ; after y ;", True)
        self.check("before x ; before x ;", True)
        self.check("before x ; change y ; after z ;", True, True)
        self.check("delete ; delete ;", True)
        self.check("if line 1 before x ; if line 2 before y ;", True)
        self.check("if has b before x ; if not has b before y ;", True)
        self.check("if line 25 stop ; delete ;", True)

    def test_they_may_not(self):
        self.check("before x ; before y ;", (1, 0, "x"))
        self.check("stop ; before x ;", (1, 0, "x"))
        self.check("before x ; stop ;", (1, 0, "x"))
        self.check("delete ; stop ;", (1, 0, ""))
        self.check("change x ; change y ;", (1, 0, "x"))
        self.check("if has b stop ; if has b before x ;", (1, 0, "baaaaaaaa"))
        self.check("if is b change c ; if is c change d ;", (1, 0, "b"))

    def test_letters_alone_count(self):
        # Of x comes x: the line itself, or, when they have changed places, the one put ahead of it alone.
        self.check("if not is x stop ; skip 2 ; before x ; stop ; stop ; delete ;",
                   True, True, True, True, (1, 0, "x"))
        self.check("skip 2 ; before x ; stop ; stop ; delete ;", (1, 0, ""))
        self.check("if not is x stop ; before x ; after x ;", (1, 0, ""), True)
        self.check("after x ; after xx ;", (1, 0, "x"))
        self.check("before x ; if is x delete ;", (1, 0, "x"))

    def test_places_come_ahead_of_kinds(self):
        # The last two make something else of b from line 5 on only, of all others from line 2 on.
        self.check("if is b skip 1 ; if line 1 stop ; if not is b skip 1 ; if from 1 to 4 stop ; delete ; before z ;",
                   True, (2, 0, "z"), (2, 0, "z"), (1, 0, "b"), (2, 0, "z"))

    def test_at_one_place_alone(self):
        self.check("if line 23 stop ; before x ;", (23, 0, "x"))
        self.check("if line 24 stop ; before x ;", (24, 1, "x"))
        self.check("if last stop ; before x ;", (1, 1, "x"))
        self.check("if line 24 stop ; if last before x ;", (24, 1, "x"))
        self.check("if line 24 stop ; if not last before x ;", True)
        self.check("if not last stop ; if line 23 stop ; before x ;", True, (23, 1, "x"))
        self.check("if line 25 stop ; before x ;", True)

    def test_of_the_last_kind_alone(self):
        self.check("if not has b stop ; if not has c stop ; stop ; before x ;", True, True, (1, 0, "bcaaaaaaa"))
        self.check("if not has b stop ; if not is bbbbbbbb stop ; stop ; before x ;",
                   True, True, (1, 0, "bbbbbbbb"))

    def test_beside_skip(self):
        # What a skip leaves out is counted anew when they have changed places.
        self.check("skip 1 ; stop ; before x ;", (1, 0, "x"), (1, 0, "x"))
        self.check("skip 1 ; skip 1 ; before x ;", True, (1, 0, "x"))
        self.check("skip 2 ; before x ; before y ; before z ;", (1, 0, "x"), True, (1, 0, "x"))
        self.check("skip 1 ; before x ; before x ;", True, True)
        self.check("skip 1 ; before x ; before y ;", (1, 0, "x"), (1, 0, "x"))
        self.check("skip 9 ; before x ;", (1, 0, "x"))

    def test_sixteen_commands(self):
        self.check("stop ;" * 16, *[True] * 15)
        self.check("before x ;" * 15 + "before y ;", *[True] * 14, (1, 0, "x"))

    def test_it_changes_nothing(self):
        told = after_load("before x ; after y ;", [SHOWN], [IDLE], [TURN, 0], [TURN, 0], [SHOWN], [IDLE])
        self.assertEqual(told[2:4], [[1], [1]])
        self.assertEqual(told[:2], told[4:])


class Refused(unittest.TestCase):

    def test_no_such_command(self):
        for number in (-1, -2, 3, 4, 15, 16, 10 ** 18, -10 ** 18):
            self.assertEqual(after_load("stop ; stop ; stop ;", [TURN, number]), [[-2]], number)

    def test_no_next_one(self):
        self.assertEqual(after_load("stop ; stop ; stop ;", [TURN, 2], [TURN, 1]), [[-2], [1]])
        self.assertEqual(after_load("stop ;", [TURN, 0], [TURN, 1], [TURN, -1]), [[-2], [-2], [-2]])
        self.assertEqual(after_load("", [TURN, 0], [TURN, -1]), [[-2], [-2]])
        self.assertEqual(after_load("stop ;" * 16, [TURN, 14], [TURN, 15]), [[1], [-2]])


if __name__ == "__main__":
    unittest.main()
