"""Which scripts are plain, and what a load leaves behind that does not hold one."""

import unittest

from calling import CAN, KINDS, SHOWN, answered, load, loaded


def seeking(*words):
    return "".join(["if has " + word + " stop ;" for word in words])


class Plain(unittest.TestCase):

    def test_deeds_not_plain(self):
        for deed in ("swap a b", "swap a none", "first a b", "first a none", "keep", "bring", "trade"):
            self.assertEqual(loaded(deed + " ;"), [-6], deed)
            self.assertEqual(loaded("stop ; if not all " + deed + " ; delete ;"), [-6], deed)

    def test_plain_deeds(self):
        for deed in ("delete", "before w", "after w", "change w", "skip 1", "stop"):
            self.assertEqual(loaded(deed + " ;")[:2], [1, 1], deed)

    def test_a_fault_is_no_refusal(self):
        self.assertEqual(loaded("keep ; stop"), [0, 3, 11])
        self.assertEqual(loaded(seeking("a", "b", "c", "d", "e") + "skip 0 ;")[:2], [0, 7])

    def test_four_and_five_unlike_words(self):
        self.assertEqual(loaded(seeking("a", "b", "c", "d"))[0], 1)
        self.assertEqual(loaded(seeking("a", "b", "c", "d", "e")), [-6])

    def test_sixteen_and_seventeen_letters(self):
        self.assertEqual(loaded(seeking("abcdefgh", "ijklmnop"))[0], 1)
        self.assertEqual(loaded(seeking("abcdefgh", "ijklmnop", "q")), [-6])
        self.assertEqual(loaded(seeking("aaaa", "bbbb", "cccc", "dddd"))[0], 1)
        self.assertEqual(loaded(seeking("aaaa", "bbbb", "cccc", "ddddd")), [-6])
        self.assertEqual(loaded(seeking("aaaaaaaa", "bbbbbbb", "c"))[0], 1)
        self.assertEqual(loaded(seeking("aaaaaaaa", "bbbbbbb", "cc")), [-6])

    def test_the_same_word_counts_once(self):
        self.assertEqual(loaded(seeking("a", "b", "a", "c", "d", "b", "d"))[0], 1)
        self.assertEqual(loaded(seeking("abcdefgh", "abcdefgh", "abcdefgh"))[0], 1)

    def test_behind_several_nots_too(self):
        four = seeking("a", "b", "c", "d")
        for nots in ("not ", "not not ", "not not not "):
            self.assertEqual(loaded(four + "if " + nots + "has e stop ;"), [-6])
            self.assertEqual(loaded(four + "if " + nots + "has d stop ;")[0], 1)

    def test_other_words_do_not_count(self):
        text = seeking("abcdefgh", "ijklmnop") + "if is q stop ; before r ; after s ; change t ; if not is u stop ;"
        self.assertEqual(loaded(text)[:2], [1, 7])


class Held(unittest.TestCase):

    def test_a_script_is_held_from_now_on(self):
        found = answered(load("stop ;"), [SHOWN], load("delete ; delete ;"), [SHOWN], [CAN, 0], [CAN, 1])
        self.assertEqual(bytes(found[1][1:]), b"stop ;\n")
        self.assertEqual(found[2], [1, 2, 2])
        self.assertEqual(bytes(found[3][1:]), b"delete ;\ndelete ;\n")
        self.assertEqual(found[5], [0])

    def test_refused_or_faulty_loads_change_nothing(self):
        for text, answer in (("keep ;", [-6]), (seeking("a", "b", "c", "d", "e"), [-6]), ("stop", [0, 3, 4]),
                             ("A", [0, 2, 0]), (" " * 4097, [0, 1, 4096]), ("stop;" * 17, [0, 4, 80]),
                             ("skip 0", [0, 7, 5])):
            held = answered(load("if has b before w ;"), [SHOWN], [KINDS], [CAN, 0])
            found = answered(load("if has b before w ;"), load(text), [SHOWN], [KINDS], [CAN, 0])
            self.assertEqual(found[1], answer)
            self.assertEqual(found[2:], held[1:])

    def test_refused_or_faulty_loads_hold_nothing(self):
        for text in ("keep ;", "stop", "A"):
            self.assertEqual(answered(load(text), [SHOWN], [KINDS])[1:], [[-1], [-1]])


if __name__ == "__main__":
    unittest.main()
