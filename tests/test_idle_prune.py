"""Which commands are idle, and what is left when a script is pruned."""

import unittest

from calling import (CAN, IDLE, KINDS, LINES, MATTERS, PRUNE, SHOWN, TURN, after_load, answered, as_bytes, first,
                     load, safe)


def form(told):
    return bytes(told[1:]).decode("ascii")


class Idle(unittest.TestCase):

    def check(self, text, numbers):
        self.assertEqual(after_load(text, [IDLE]), [[len(numbers)] + numbers], text)

    def test_no_command(self):
        self.check("", [])

    def test_one_command(self):
        self.check("stop ;", [0])
        self.check("skip 1 ;", [0])
        self.check("before x ;", [])
        self.check("change x ;", [])
        self.check("delete ;", [])
        self.check("if is x change x ;", [0])

    def test_sixteen_commands(self):
        self.check("stop ;" * 16, list(range(16)))
        self.check("change x ;" * 16, list(range(16)))
        self.check("before x ;" * 16, [])
        self.check("before x ; stop ;" * 8, list(range(2, 16)))

    def test_each_by_itself(self):
        # Either one of the two may go, not both.
        self.check("delete ; delete ;", [0, 1])
        self.check("if line 24 delete ; if from 24 to 99 delete ;", [0, 1])
        self.check("if has b delete ; if is b delete ;", [1])

    def test_never_done(self):
        self.check("if not all delete ; if line 25 delete ; if from 25 to 99 delete ; before x ;", [0, 1, 2])
        self.check("delete ; before x ;", [1])
        self.check("change y ; if is x delete ; before x ;", [1])

    def test_at_one_place_alone(self):
        self.check("if line 23 before x ; if line 24 before x ; if last before x ; if line 25 before x ;", [3])
        self.check("if not last stop ; if not line 23 stop ; delete ;", [])
        self.check("if last stop ; if not line 24 stop ; delete ;", [2])
        self.check("if last stop ; if line 24 delete ;", [1])

    def test_of_one_kind_alone(self):
        self.check("if not is x stop ; before y ;", [])
        self.check("if not has bb stop ; if is bb stop ; before y ;", [])
        self.check("if has b stop ; if has bb before y ;", [1])

    def test_beside_skip(self):
        # A skip counts a command that is left out, and one that is never done in its place.
        self.check("skip 1 ; stop ; before x ;", [1])
        self.check("skip 1 ; if line 25 stop ;", [0, 1])
        self.check("skip 1 ; skip 1 ; before x ;", [1])
        self.check("skip 2 ; before x ; before y ; before z ;", [1, 2])
        self.check("skip 9 ; before x ;", [1])
        self.check("if has b skip 1 ; if has b before x ; before y ;", [1])

    def test_it_changes_nothing(self):
        told = after_load("stop ; delete ;", [SHOWN], [IDLE], [IDLE], [SHOWN])
        self.assertEqual(told[1], told[2])
        self.assertEqual(told[0], told[3])


class Prune(unittest.TestCase):

    def check(self, text, left):
        """What is left, told three times: how many, the form, and no command idle, also when pruned again."""
        rows = left.count("\n")
        told = after_load(text, [PRUNE], [SHOWN], [IDLE], [PRUNE], [SHOWN])
        self.assertEqual(told, [[rows], [len(left)] + as_bytes(left), [0], [rows], [len(left)] + as_bytes(left)], text)

    def test_none_is_idle(self):
        self.check("", "")
        self.check("delete ;", "delete ;\n")
        self.check("before x ;" * 16, "before x ;\n" * 16)

    def test_all_are_taken_out(self):
        self.check("stop ;", "")
        self.check("stop ;" * 16, "")
        self.check("if line 25 delete ; if not all before x ; if last stop ;", "")
        self.check("if is x change x ;", "")

    def test_several_are_taken_out(self):
        self.check("delete ; before x ; stop ; delete ;", "delete ;\n")
        self.check("before x ; stop ;" * 8, "before x ;\n")
        self.check("change x ;" * 16, "change x ;\n")

    def test_the_first_one_goes_first(self):
        self.check("if line 24 delete ; if from 24 to 99 delete ;", "if from 24 to 99 delete ;\n")
        self.check("if from 24 to 99 delete ; if line 24 delete ;", "if line 24 delete ;\n")
        self.check("if all delete ; if not not all delete ; if not not all delete ;", "if not not all delete ;\n")

    def test_not_all_that_are_idle_at_first(self):
        self.assertEqual(after_load("delete ; delete ; delete ;", [IDLE], [PRUNE]), [[3, 0, 1, 2], [1]])

    def test_one_that_is_idle_only_then(self):
        # The first matters as long as the second is there.
        text = "if has a stop ; if has a delete ;"
        self.assertEqual(after_load(text, [IDLE]), [[1, 1]])
        self.check(text, "")
        self.check("before x ; if has a stop ; after y ; if has a delete ; after y ;",
                   "before x ;\nif has a stop ;\nafter y ;\nafter y ;\n")
        self.check("if last stop ; if line 24 delete ; if is q before r ;", "if last stop ;\nif is q before r ;\n")

    def test_later_calls_speak_of_what_is_left(self):
        text = "if has b stop ; stop ; delete ; before w ;"
        self.assertEqual(answered(load(text))[0], [1, 4, 4])
        told = after_load("if line 25 before v ; if has c stop ; before w ; if is q stop ;",
                          [PRUNE], [SHOWN], [KINDS], [CAN, 0], [MATTERS, 1], [TURN, 0], [LINES, 1], [IDLE])
        self.assertEqual(form(told[1]), "if has c stop ;\nbefore w ;\n")
        self.assertEqual(told[0], [2])
        self.assertEqual(told[2], [4, 1, 119, 0, 9] + [97] * 9 + [9, 99] + [97] * 8)
        self.assertEqual(told[3], first(1, 0, "caaaaaaaa"))
        self.assertEqual(told[4], first(1, 0, "w"))
        self.assertEqual(told[5], first(1, 0, "caaaaaaaa", ahead=0))
        self.assertEqual(told[6], [24] + list(range(1, 25)))
        self.assertEqual(told[7], [0])

    def test_numbers_that_are_no_more(self):
        for call in (CAN, MATTERS, LINES):
            found = after_load("before x ; stop ;", [call, 1], [PRUNE], [call, 1], [call, 0])
            self.assertNotEqual(found[0], [-2], call)
            self.assertEqual(found[1:3], [[1], [-2]], call)
            self.assertNotEqual(found[3], [-2], call)
        self.assertEqual(after_load("before x ; before x ; stop ;", [TURN, 1], [PRUNE], [TURN, 1], [TURN, 0]),
                         [first(1, 0, "x", ahead=0), [2], [-2], [1]])

    def test_kinds_that_are_no_more(self):
        found = after_load("before w ; if has b stop ; if is q stop ;", [KINDS], [PRUNE], [KINDS], [CAN, 0])
        self.assertEqual(found[0][0], 5)
        self.assertEqual(found[1:], [[1], [3, 1, 119, 0, 9] + [97] * 9, first(1, 0, "w")])

    def test_the_free_letter_is_another_one_then(self):
        found = after_load("if has a stop ; if has b before x ;", [KINDS], [PRUNE], [KINDS])
        self.assertEqual(found[1], [2])
        found = after_load("if has b before x ; if has a stop ;", [PRUNE], [KINDS])
        self.assertEqual(found, [[1], [4, 1, 120, 0, 9] + [97] * 9 + [9, 98] + [97] * 8])

    def test_all_taken_out_and_still_held(self):
        found = after_load("stop ;", [PRUNE], [SHOWN], [KINDS], [IDLE], [CAN, 0], [TURN, 0], safe("a"), [PRUNE])
        self.assertEqual(found, [[0], [0], [2, 0, 9] + [97] * 9, [0], [-2], [-2], [1], [0]])

    def test_a_load_behind_it(self):
        found = after_load("stop ;", [PRUNE], load("delete ; delete ;"), [IDLE], [PRUNE], load("keep ;"), [SHOWN])
        self.assertEqual(found, [[0], [1, 2, 2], [2, 0, 1], [1], [-6], [9] + as_bytes("delete ;\n")])


class SkipIsNotPruned(unittest.TestCase):

    def test_refused(self):
        for text in ("skip 1 ;", "stop ; skip 9 ;", "if not all skip 1 ; stop ;", "if line 25 skip 1 ;",
                     "delete ;" * 15 + "skip 2 ;"):
            self.assertEqual(after_load(text, [PRUNE]), [[-3]], text)

    def test_it_stays_as_it_was(self):
        text = "stop ; skip 1 ; before x ;"
        calls = ([SHOWN], [KINDS], [IDLE], [CAN, 0])
        self.assertEqual(after_load(text, [PRUNE], *calls), [[-3]] + after_load(text, *calls))

    def test_no_script_is_told_first(self):
        self.assertEqual(answered([PRUNE], load("skip 1 ;"), [PRUNE]), [[-1], [1, 1, 2], [-3]])


if __name__ == "__main__":
    unittest.main()
