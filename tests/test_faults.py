"""What a script may not be: the faults 1, 3, 4 and 7, and their places."""

import unittest

from calling import loaded

OWN_WORDS = ("if all line from to last has is not delete before after change swap first keep bring trade "
             "skip stop none").split()


class TooLong(unittest.TestCase):

    def test_4096_bytes_are_not_too_many(self):
        self.assertEqual(loaded(" " * 4096), [1, 0, 2])
        self.assertEqual(loaded("stop;" + " " * 4091), [1, 1, 2])
        self.assertEqual(loaded("stop" + " " * 4092), [0, 3, 4096])

    def test_more_than_4096_bytes(self):
        for length in (4097, 4098, 8191, 8192):
            self.assertEqual(loaded(" " * length), [0, 1, 4096])

    def test_ahead_of_any_other(self):
        self.assertEqual(loaded("A" * 4097), [0, 1, 4096])
        self.assertEqual(loaded("A" * 4096), [0, 2, 0])
        self.assertEqual(loaded("; if line 0" + " " * 4090), [0, 1, 4096])
        self.assertEqual(loaded("keep ;" + " " * 4091), [0, 1, 4096])


class NotAllowed(unittest.TestCase):

    def check(self, text, place):
        self.assertEqual(loaded(text), [0, 3, place], repr(text))

    def test_where_a_command_begins(self):
        for token in (";", "5", "abc", "all", "line", "from", "to", "last", "has", "is", "not", "none"):
            self.check(token, 0)
            self.check("stop ;\n" + token + " ;", 7)

    def test_where_an_address_begins(self):
        for token in (";", "5", "abc", "if", "to", "delete", "stop", "none"):
            self.check("if " + token + " stop ;", 3)
            self.check("if not " + token + " stop ;", 7)

    def test_where_a_deed_begins(self):
        for token in (";", "5", "abc", "if", "all", "not", "to", "none"):
            self.check("if last " + token + " ;", 8)

    def test_where_the_sign_has_to_stand(self):
        for token in ("5", "abc", "stop", "if", ""):
            self.check("stop " + token, 5)
            self.check("before a " + token, 9)
            self.check("skip 9 " + token, 7)
            self.check("swap a none " + token, 12)

    def test_where_a_number_has_to_stand(self):
        for token in ("abc", "to", ";", "stop"):
            self.check("skip " + token + " ;", 5)
            self.check("if line " + token + " stop ;", 8)
            self.check("if from " + token + " to 5 stop ;", 8)
            self.check("if from 5 to " + token + " stop ;", 13)

    def test_where_to_has_to_stand(self):
        for token in ("abc", "6", ";", "line", "stop"):
            self.check("if from 5 " + token + " 6 stop ;", 10)

    def test_own_words_in_place_of_letters(self):
        for word in OWN_WORDS:
            self.check("if has " + word + " stop ;", 7)
            self.check("if is " + word + " stop ;", 6)
            self.check("before " + word + " ;", 7)
            self.check("after " + word + " ;", 6)
            self.check("change " + word + " ;", 7)
            self.check("swap " + word + " a ;", 5)
            self.check("first " + word + " a ;", 6)
            if word != "none":
                self.check("swap a " + word + " ;", 7)
                self.check("first a " + word + " ;", 8)

    def test_no_word_in_place_of_letters(self):
        for token in ("5", ";"):
            self.check("if has " + token + " stop ;", 7)
            self.check("if is " + token + " stop ;", 6)
            self.check("before " + token + " ;", 7)
            self.check("swap " + token + " a ;", 5)
            self.check("first a " + token + " ;", 8)

    def test_words_like_own_words_are_letters(self):
        for word in ("i", "iff", "al", "alll", "stops", "non", "nones", "deletes"):
            self.assertEqual(loaded("before " + word + " ;")[0], 1)

    def test_the_end(self):
        self.check("stop", 4)
        self.check("stop  \n", 7)
        self.check("stop # and more", 15)
        for text in ("if", "if not", "if line", "if from 1", "if from 1 to", "if has", "if is", "if all",
                     "if last", "before", "change", "swap", "swap a", "first a", "skip", "skip 1", "stop ; if"):
            self.check(text, len(text))
            self.check(text + "\t", len(text) + 1)


class Behind(unittest.TestCase):

    def test_sixteen_commands(self):
        self.assertEqual(loaded("stop;" * 16), [1, 16, 2])
        self.assertEqual(loaded("stop;" * 16 + " \n# and no more"), [1, 16, 2])

    def test_whatever_stands_behind_the_sixteenth(self):
        for token in ("stop;", ";", "5", "abc", "if", "none", "if line 0 stop;"):
            self.assertEqual(loaded("stop;" * 16 + token), [0, 4, 80], token)
            self.assertEqual(loaded("stop;" * 16 + " #x\n" + token), [0, 4, 84], token)

    def test_other_faults_in_the_sixteenth(self):
        self.assertEqual(loaded("stop;" * 15 + "stop stop;"), [0, 3, 80])
        self.assertEqual(loaded("stop;" * 15 + "; stop;"), [0, 3, 75])
        self.assertEqual(loaded("stop;" * 15 + "skip 0; stop;"), [0, 7, 80])

    def test_three_nots(self):
        self.assertEqual(loaded("if not not not all stop ;"), [1, 1, 2])
        self.assertEqual(loaded("if not not not all stop ; if not not not last stop ;"), [1, 2, 2])

    def test_a_fourth_not(self):
        self.assertEqual(loaded("if not not not not all stop ;"), [0, 4, 15])
        self.assertEqual(loaded("if not not not not"), [0, 4, 15])
        self.assertEqual(loaded("if not not not #\n  not not"), [0, 4, 19])

    def test_a_not_elsewhere(self):
        self.assertEqual(loaded("not"), [0, 3, 0])
        self.assertEqual(loaded("if last not"), [0, 3, 8])
        self.assertEqual(loaded("if not not not has not stop ;"), [0, 3, 19])


class Bounds(unittest.TestCase):

    def test_within(self):
        for text in ("if line 1 stop ;", "if line 99 stop ;", "if from 1 to 1 stop ;", "if from 1 to 99 stop ;",
                     "if from 99 to 99 stop ;", "if from 5 to 10 stop ;", "skip 1 ;", "skip 9 ;"):
            self.assertEqual(loaded(text), [1, 1, 2], text)

    def test_not_within(self):
        for text, place in (("if line 0 stop ;", 8), ("if line 100 stop ;", 8), ("if line 1000000000 stop ;", 8),
                            ("if from 0 to 5 stop ;", 8), ("if from 100 to 5 stop ;", 8),
                            ("if from 1 to 100 stop ;", 13), ("if from 1 to 0 stop ;", 13),
                            ("if from 0 to 0 stop ;", 8), ("if from 5 to 4 stop ;", 13),
                            ("if from 10 to 9 stop ;", 14), ("if from 99 to 98 stop ;", 14),
                            ("if not line 0 stop ;", 12), ("skip 0 ;", 5), ("skip 10 ;", 5), ("skip 99 ;", 5)):
            self.assertEqual(loaded(text), [0, 7, place], text)

    def test_whichever_comes_first(self):
        self.assertEqual(loaded("if line 0 ;"), [0, 7, 8])
        self.assertEqual(loaded("if from 0 5 stop"), [0, 7, 8])
        self.assertEqual(loaded("if line 1 ; skip 0 ;"), [0, 3, 10])
        self.assertEqual(loaded("skip 0"), [0, 7, 5])
        self.assertEqual(loaded("skip 0 ;" + "stop;" * 20), [0, 7, 5])
        self.assertEqual(loaded("if not not not not line 0"), [0, 4, 15])
        self.assertEqual(loaded("if line 100 stop ; if not not not not"), [0, 7, 8])


if __name__ == "__main__":
    unittest.main()
