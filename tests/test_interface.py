"""How calls are handed in and answers given back, and what is refused ahead of all else."""

import unittest

from calling import (CAN, IDLE, KINDS, LINES, MATTERS, PRUNE, SAFE, SHOWN, TURN, answered, as_bytes, load, safe)
from scriptsknown.scripts import answers


class Watched(list):
    """A list that is not to be changed."""

    def refuse(self, *unused, **unused_too):
        raise AssertionError("what was handed in was changed")

    append = extend = insert = pop = remove = clear = sort = reverse = refuse
    __setitem__ = __delitem__ = __iadd__ = __imul__ = refuse


class Answers(unittest.TestCase):

    def test_a_count_ahead_of_each(self):
        calls = load("if is b stop ;") + [SHOWN, KINDS, CAN, 0, MATTERS, 0, CAN, 1, SHOWN]
        form = list(b"if is b stop ;\n")
        self.assertEqual(answers(calls), [
            3, 1, 1, 3, 16, 15] + form + [14, 3, 1, 98, 0, 9] + [97] * 9 + [
            5, 1, 1, 0, 1, 98, 1, 0, 1, -2, 16, 15] + form)

    def test_a_count_ahead_of_each_further(self):
        calls = load("if line 3 stop ; if last stop ; after w ;") + [IDLE, TURN, 0, TURN, 1, LINES, 0] + safe("b")
        self.assertEqual(answers(calls), [3, 1, 3, 3, 1, 0, 1, 1, 5, 0, 1, 1, 1, 119, 2, 1, 3, 1, 1])
        self.assertEqual(answers(load("delete ; stop ;") + safe("b") + [IDLE, PRUNE, IDLE]),
                         [3, 1, 2, 2, 3, 0, 1, 0, 2, 1, 1, 1, 1, 1, 0])

    def test_a_fault(self):
        self.assertEqual(answers(load("stop")), [3, 0, 3, 4])

    def test_a_refusal_alone(self):
        self.assertEqual(answers(load("keep ;")), [1, -6])
        self.assertEqual(answers([SHOWN]), [1, -1])
        self.assertEqual(answers(load("") + [CAN, 0, MATTERS, 7]), [3, 1, 0, 2, 1, -2, 1, -2])
        self.assertEqual(answers(load("skip 1 ;") + [TURN, 0, LINES, 1, PRUNE, SAFE, 1, 10]),
                         [3, 1, 1, 2, 1, -2, 1, -2, 1, -3, 1, -4])

    def test_an_empty_list_of_bytes(self):
        self.assertEqual(answers([0, 0]), [3, 1, 0, 2])
        self.assertEqual(answers([0, 0, SHOWN, 0, 0, KINDS]),
                         [3, 1, 0, 2, 1, 0, 3, 1, 0, 2, 12, 2, 0, 9] + [97] * 9)

    def test_ten_calls(self):
        calls = load("stop ;") + [CAN, 0] * 9
        self.assertEqual(answers(calls), [3, 1, 1, 2] + [4, 1, 1, 0, 0] * 9)

    def test_a_list_of_bytes_that_looks_like_calls(self):
        self.assertEqual(answers([0, 5, SHOWN, SHOWN, KINDS, CAN, 0, SHOWN]), [3, 0, 2, 0, 1, -1])
        self.assertEqual(answers([0, 0, SAFE, 3, PRUNE, SAFE, IDLE, IDLE]), [3, 1, 0, 2, 1, -4, 1, 0])

    def test_whole_numbers_alone(self):
        calls = load("if last before w ; if has b delete ;") + [SHOWN, KINDS, CAN, 0, MATTERS, 0, CAN, 1, CAN, 9]
        further = load("if last before w ; stop ; delete ;") + [IDLE, TURN, 0, TURN, 1, LINES, 0] + safe("a")
        for one in (calls + load("A"), further + [PRUNE, IDLE] + safe("A")):
            told = answers(one)
            self.assertIs(type(told), list)
            self.assertEqual({type(number) for number in told}, {int})

    def test_two_lists_do_not_know_of_each_other(self):
        self.assertEqual(answers(load("stop ;")), [3, 1, 1, 2])
        for call in ([SHOWN], [KINDS], [CAN, 0], [MATTERS, 0], [IDLE], [TURN, 0], [LINES, 0], safe("a"), [PRUNE]):
            self.assertEqual(answers(call), [1, -1])
        self.assertEqual(answers(load("before w ;") + [KINDS]), answers(load("before w ;") + [KINDS]))
        for repeated in range(2):
            self.assertEqual(answered(load("stop ; delete ; stop ;"), [IDLE], [PRUNE])[1:], [[2, 1, 2], [0]])

    def test_what_is_handed_in_stays(self):
        for text in ("if has ab delete ; before q ; skip 1 ; stop ;", "stop ; before q ; delete ;", "stop", "keep ;", "skip 0 ;", "A", " " * 4097):
            for calls in (load(text) + [SHOWN, KINDS, CAN, 0, MATTERS, 0],
                          load(text) + [IDLE, TURN, 0, LINES, 0] + safe("ab") + safe("A") + [PRUNE, SHOWN]):
                watched = Watched(calls)
                kept = list(calls)
                self.assertEqual(answers(watched), answers(calls))
                self.assertEqual(list(watched), kept)
                self.assertEqual(calls, kept)

    def test_what_is_given_back_is_one_s_own(self):
        once = answers(load("before w ;") + [KINDS])
        once.clear()
        self.assertEqual(answers([KINDS]), [1, -1])


class NoScript(unittest.TestCase):

    def test_every_call_but_load(self):
        for call in ([SHOWN], [KINDS], [CAN, 0], [MATTERS, 0], [IDLE], [TURN, 0], [LINES, 0], [SAFE, 0],
                     [SAFE, 2, 97, 97], [PRUNE]):
            self.assertEqual(answered(call), [[-1]], call)
            self.assertEqual(answered(call, [SHOWN], load("stop ;")), [[-1], [-1], [1, 1, 2]], call)

    def test_ahead_of_other_refusals(self):
        for number in (-1, 16, 10 ** 18, -10 ** 18):
            for call in (CAN, MATTERS, TURN, LINES):
                self.assertEqual(answered([call, number]), [[-1]])
        self.assertEqual(answered([SAFE, 1, 65]), [[-1]])
        self.assertEqual(answered([SAFE, 8192] + as_bytes(" " * 8192), [CAN, 0]), [[-1], [-1]])

    def test_until_a_script_is_held(self):
        self.assertEqual(answered([CAN, 0], load("keep ;"), [CAN, 0], load("stop ;"), [CAN, 0]),
                         [[-1], [-6], [-1], [1, 1, 2], [1, 1, 0, 0]])


if __name__ == "__main__":
    unittest.main()
