"""Tokens, what may stand between them, and fault 2."""

import unittest

from calling import loaded, shown_text
from scriptsknown.faults import Fault
from scriptsknown.tokens import tokens_of


class Between(unittest.TestCase):

    def test_blanks_between_any_two_tokens(self):
        for blank in (" ", "\t", "\n", " \t\n\n", "#\n", "# if ;\n", "\t# one\n# two\n "):
            text = blank + blank.join(["if", "not", "from", "1", "to", "2", "before", "w", ";", "stop", ";"]) + blank
            self.assertEqual(shown_text(text), "if not from 1 to 2 before w ;\nstop ;\n", repr(blank))

    def test_no_blank_is_needed_but_between_words(self):
        self.assertEqual(shown_text("if line 5stop;skip3;"), "if line 5 stop ;\nskip 3 ;\n")
        self.assertEqual(shown_text("if from1to2delete;"), "if from 1 to 2 delete ;\n")

    def test_only_blanks_or_nothing(self):
        for text in ("", " ", "\n\t ", "#", "# all that is told", "#\n", "##\n#\n#"):
            self.assertEqual(loaded(text), [1, 0, 2], repr(text))

    def test_remark_ends_with_the_text(self):
        self.assertEqual(shown_text("stop ;# if ;"), "stop ;\n")
        self.assertEqual(shown_text("stop ;#"), "stop ;\n")

    def test_remark_holds_any_byte(self):
        inner = [byte for byte in range(256) if byte != 10]
        self.assertEqual(shown_text([35] + inner + [10] + list(b"stop;")), "stop ;\n")

    def test_remark_ends_only_at_byte_10(self):
        self.assertEqual(loaded("# one \r stop ;"), [1, 0, 2])
        self.assertEqual(loaded("# one \n A"), [0, 2, 8])

    def test_remark_and_blank_part_tokens(self):
        self.assertEqual(loaded("st#\nop ;"), [0, 3, 0])
        self.assertEqual(loaded("st op ;"), [0, 3, 0])
        self.assertEqual(loaded("skip 1 2 ;"), [0, 3, 7])
        self.assertEqual(loaded("skip 1#\n2 ;"), [0, 3, 8])
        self.assertEqual(shown_text("stop#;\n;"), "stop ;\n")


class Words(unittest.TestCase):

    def test_eight_letters_are_not_too_many(self):
        self.assertEqual(shown_text("before abcdefgh ;"), "before abcdefgh ;\n")
        self.assertEqual(loaded("abcdefgh"), [0, 3, 0])

    def test_nine_letters_are_too_many(self):
        self.assertEqual(loaded("before abcdefghi ;"), [0, 2, 7])
        self.assertEqual(loaded("abcdefghi"), [0, 2, 0])
        self.assertEqual(loaded("stop;" + "z" * 4000), [0, 2, 5])

    def test_all_letters(self):
        self.assertEqual(shown_text("before abcdefgh;before ijklmnop;before qrstuvwx;before yz;"),
                         "before abcdefgh ;\nbefore ijklmnop ;\nbefore qrstuvwx ;\nbefore yz ;\n")

    def test_number_right_behind_word(self):
        self.assertEqual(loaded("before abcdefgh1 ;"), [0, 3, 15])
        self.assertEqual([(token.kind, token.value, token.place) for token in tokens_of(list(b"ab12"))],
                         [("word", "ab", 0), ("number", 12, 2), ("end", "", 4)])

    def test_word_right_behind_number(self):
        self.assertEqual([(token.kind, token.value, token.place) for token in tokens_of(list(b"12ab;0"))],
                         [("number", 12, 0), ("word", "ab", 2), ("sign", ";", 4), ("number", 0, 5), ("end", "", 6)])
        self.assertEqual(loaded("if line 1abcdefghi ;"), [0, 2, 9])


class Numbers(unittest.TestCase):

    def test_greatest(self):
        self.assertEqual(loaded("skip 1000000000 ;"), [0, 7, 5])
        self.assertEqual(loaded("skip 999999999 ;"), [0, 7, 5])
        self.assertEqual(tokens_of(list(b" 1000000000"))[0].value, 1000000000)
        self.assertEqual(tokens_of(list(b"1234567890".replace(b"1234", b"9")))[0].value, 9567890)

    def test_too_great(self):
        for number in ("1000000001", "1000000010", "2000000000", "9999999999", "10000000000",
                       "99999999999", "1" + "0" * 60, "9" * 4080):
            self.assertEqual(loaded("skip " + number + ";"), [0, 2, 5], number[:20])

    def test_needless_zero(self):
        for number in ("00", "01", "007", "0000000001", "00000000000000000000"):
            self.assertEqual(loaded("skip " + number + ";"), [0, 2, 5], number)

    def test_zero_itself(self):
        self.assertEqual(loaded("skip 0 ;"), [0, 7, 5])
        self.assertEqual(tokens_of(list(b"0"))[0].value, 0)
        self.assertEqual(loaded("0"), [0, 3, 0])


class NoToken(unittest.TestCase):

    def test_bytes_with_which_no_token_begins(self):
        begins = list(b"abcdefghijklmnopqrstuvwxyz0123456789; \t\n#")
        for byte in range(256):
            script = list(b"stop ;") + [byte]
            if byte in begins:
                self.assertEqual(len(loaded(script)), 3)
                self.assertNotEqual(loaded(script)[:2], [0, 2], byte)
            else:
                self.assertEqual(loaded(script), [0, 2, 6], byte)

    def test_right_behind_a_word_or_a_number(self):
        self.assertEqual(loaded("stoP ;"), [0, 2, 3])
        self.assertEqual(loaded("skip 1_ ;"), [0, 2, 6])
        self.assertEqual(loaded("skip -1 ;"), [0, 2, 5])

    def test_the_first_of_several(self):
        self.assertEqual(loaded("stop ; 007 ABC abcdefghijkl"), [0, 2, 7])
        self.assertEqual(loaded("stop ; abcdefghijkl 007 ABC"), [0, 2, 7])

    def test_ahead_of_what_is_told_from_left_to_right(self):
        self.assertEqual(loaded("; if line 0 stop ; !"), [0, 2, 19])
        self.assertEqual(loaded("if line 0 stop ; 00"), [0, 2, 17])
        self.assertEqual(loaded("if not not not not all stop ; ?"), [0, 2, 30])
        self.assertEqual(loaded("stop;" * 17 + "A"), [0, 2, 85])
        self.assertEqual(loaded("swap a b ; A"), [0, 2, 11])

    def test_a_fault_is_raised(self):
        with self.assertRaises(Fault) as caught:
            tokens_of(list(b"a b A"))
        self.assertEqual((caught.exception.code, caught.exception.place), (2, 4))


if __name__ == "__main__":
    unittest.main()
