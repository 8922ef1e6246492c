"""On which numbers of lines a command is done, and which lines stay as they are."""

import unittest

from calling import LINES, SAFE, SHOWN, after_load, as_bytes, many, safe

ALL = list(range(1, 25))


class Lines(unittest.TestCase):

    def check(self, text, *numbers):
        """The numbers of the lines for each command."""
        found = many(text, LINES, list(range(len(numbers))))
        self.assertEqual(found, [[len(told)] + list(told) for told in numbers], text)

    def test_each_address(self):
        self.check("stop ;", ALL)
        self.check("if line 1 stop ;", [1])
        self.check("if line 23 stop ;", [23])
        self.check("if line 24 stop ;", [24])
        self.check("if from 5 to 9 stop ;", [5, 6, 7, 8, 9])
        self.check("if from 23 to 99 stop ;", [23, 24])
        self.check("if last stop ;", ALL)
        self.check("if has b stop ;", ALL)
        self.check("if is b stop ;", ALL)

    def test_nots(self):
        self.check("if not line 5 stop ;", ALL[:4] + ALL[5:])
        self.check("if not not line 5 stop ;", [5])
        self.check("if not last stop ;", ALL[:23])
        self.check("if not from 2 to 23 stop ;", [1, 24])
        self.check("if not has b stop ;", ALL)
        self.check("if not all stop ;", [])

    def test_line_25_never_comes(self):
        self.check("if line 25 stop ; if from 25 to 99 stop ; if line 99 stop ;", [], [], [])

    def test_whether_it_is_the_last_or_not(self):
        # Line 3 comes as the last one and not as the last one; once is enough.
        self.check("if not last skip 1 ; if line 3 stop ;", ALL[:23], [3])
        self.check("if last skip 1 ; if from 22 to 24 stop ;", ALL, [22, 23])
        self.check("if last stop ; if line 24 before x ;", ALL, [])

    def test_some_kind_is_enough(self):
        # Of b it is done at line 7 alone, of all others at line 3 alone.
        self.check("if is b skip 1 ; if not line 3 stop ; if not is b skip 1 ; if not line 7 stop ; before z ;",
                   ALL, ALL[:2] + ALL[3:], [3], ALL[:6] + ALL[7:], [3, 7])

    def test_behind_others(self):
        self.check("delete ; before x ;", ALL, [])
        self.check("if from 3 to 24 stop ; before x ;", ALL[2:], [1, 2])
        self.check("if not line 9 skip 2 ; before x ; stop ; before y ;", ALL[:8] + ALL[9:], [9], [9], ALL[:8] + ALL[9:])
        self.check("change x ; if not is x before y ;", ALL, [])

    def test_no_such_command(self):
        for number in (-1, -2, 2, 3, 16, 10 ** 18, -10 ** 18):
            self.assertEqual(after_load("stop ; stop ;", [LINES, number]), [[-2]], number)
        self.assertEqual(after_load("", [LINES, 0], [LINES, -1]), [[-2], [-2]])
        self.assertEqual(after_load("delete ;" * 16, [LINES, 15], [LINES, 16]), [[0], [-2]])


class Safe(unittest.TestCase):

    def check(self, text, **places):
        """For each line the first place at which it does not stay, or None."""
        for line, place in places.items():
            told = [1] if place is None else [0, place[0], place[1]]
            self.assertEqual(after_load(text, safe(line)), [told], (text, line))

    def test_no_command(self):
        self.check("", a=None, abc=None)
        self.assertEqual(after_load("", safe("")), [[1]])

    def test_deleted(self):
        self.check("delete ;", a=(1, 0))
        self.check("if is b delete ;", a=None, b=(1, 0), bb=None)
        self.check("if has b delete ;", a=None, b=(1, 0), abab=(1, 0))
        self.check("stop ; delete ;", a=None)
        self.check("skip 1 ; delete ;", a=None)

    def test_changed(self):
        self.check("change x ;", a=(1, 0), x=None, xx=(1, 0))
        self.check("if has b change b ;", a=None, b=None, bb=(1, 0), ab=(1, 0))
        self.check("if is x change y ; if is y change x ;", x=None, y=(1, 0), z=None)

    def test_the_line_itself_counts_not_its_kind(self):
        # Lines that all have just b, of one kind for the script.
        self.check("if has b change cb ;", b=(1, 0), cb=None, cbc=(1, 0), bc=(1, 0))

    def test_at_one_place_alone(self):
        for number in (1, 2, 22, 23):
            self.check(f"if line {number} delete ;", a=(number, 0))
            self.check(f"if not last stop ; if line {number} delete ;", a=(number, 1))
            self.check(f"if last stop ; if line {number} delete ;", a=(number, 0))
            self.check(f"if line {number} change x ;", a=(number, 0), x=None)
        self.check("if line 24 delete ;", a=(24, 1))
        self.check("if not from 1 to 23 change x ;", a=(24, 1), x=None)
        self.check("if last delete ;", a=(1, 1))
        self.check("if not last delete ;", a=(1, 0))
        self.check("if last stop ; if line 24 delete ;", a=None)
        self.check("if line 25 delete ;", a=None)

    def test_the_first_place(self):
        self.check("if from 5 to 9 delete ; if line 3 change x ;", a=(3, 0), x=(5, 0))
        self.check("if last change x ; if line 2 delete ;", a=(1, 1), x=(2, 0))

    def test_lines_ahead_and_behind_do_not_count(self):
        self.check("before x ; after x ; before a ;", a=None, x=None)
        # One that is put is not the line, though it has the same letters.
        self.check("before x ; delete ;", x=(1, 0), a=(1, 0))
        self.check("if is x after x ; if is x change y ;", x=(1, 0), y=None)

    def test_lengths(self):
        self.assertEqual(after_load("before x ;", safe(""), safe("a" * 16), safe("z" * 17)), [[1], [1], [-4]])
        self.assertEqual(after_load("delete ;", safe(""), safe("a" * 16), safe("a" * 17)), [[0, 1, 0], [0, 1, 0], [-4]])
        self.assertEqual(after_load("if has abcdefgh delete ;", safe("zzzzzzzzabcdefgh"), safe("zzzzzzzzabcdefg")),
                         [[0, 1, 0], [1]])
        self.assertEqual(after_load("if not has a delete ;", safe("")), [[0, 1, 0]])
        self.assertEqual(after_load("", safe("a" * 8192)), [[-4]])

    def test_bytes_that_are_no_letters(self):
        for byte in range(256):
            told = [1] if byte in range(97, 123) else [-4]
            self.assertEqual(after_load("", [SAFE, 1, byte], [SAFE, 3, 97, byte, 98], [SAFE, 2, 97, byte]),
                             [told] * 3, byte)
        self.assertEqual(after_load("delete ;", [SAFE, 1, 65], [SAFE, 17] + [10] * 17), [[-4], [-4]])

    def test_all_letters(self):
        self.check("", abcdefghijklmnop=None, qrstuvwxyz=None)

    def test_words_of_scripts_are_lines_too(self):
        self.check("if has o delete ;", stop=(1, 0), all=None)
        self.assertEqual(after_load("delete ;", safe("if")), [[0, 1, 0]])

    def test_it_changes_nothing(self):
        form = "if has b delete ;\n"
        self.assertEqual(after_load(form, safe("b"), safe("A"), [SHOWN], safe("b")),
                         [[0, 1, 0], [-4], [len(form)] + as_bytes(form), [0, 1, 0]])


if __name__ == "__main__":
    unittest.main()
