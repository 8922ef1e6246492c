"""The kinds of lines."""

import itertools
import unittest

from calling import Dice, KINDS, SOUGHT, after_load, kind_texts, loaded
from scriptsknown.kinds import first_lines


def seeking(*words):
    return "".join(["if has " + word + " stop ;" for word in words])


class OwnWords(unittest.TestCase):

    def test_in_order_and_once(self):
        text = "if is z before y ; after x ; change y ; if not is x before w ; if not not is z stop ; before v ;"
        self.assertEqual(kind_texts(text), ["z", "y", "x", "w", "v", "", "aaaaaaaaa"])

    def test_the_one_behind_comes_ahead_of_the_deed(self):
        for deed in ("before", "after", "change"):
            self.assertEqual(kind_texts("if is m " + deed + " b ;")[:2], ["m", "b"])
            self.assertEqual(kind_texts("if not is b " + deed + " m ;")[:2], ["b", "m"])

    def test_one_word_alone(self):
        self.assertEqual(kind_texts("if is m change m ;"), ["m", "", "aaaaaaaaa"])

    def test_looked_for_words_are_no_own_words(self):
        self.assertEqual(kind_texts("if has m delete ;"), ["", "aaaaaaaaa", "maaaaaaaa"])
        self.assertEqual(kind_texts("if has m before m ;"), ["m", "", "aaaaaaaaa", "maaaaaaaa"])

    def test_they_do_not_bind_the_free_letter(self):
        self.assertEqual(kind_texts("if is a before b ; change aaaaaaaa ;"),
                         ["a", "b", "aaaaaaaa", "", "aaaaaaaaa"])

    def test_none(self):
        for text in ("", "stop ;", "if line 3 delete ; skip 2 ; if last stop ;"):
            self.assertEqual(kind_texts(text), ["", "aaaaaaaaa"])

    def test_told_number_by_number(self):
        self.assertEqual(after_load("before zy ;", [KINDS]), [[3, 2, 122, 121, 0, 9] + [97] * 9])


class Sets(unittest.TestCase):

    def check(self, words, kinds):
        self.assertEqual(kind_texts(seeking(*words)), [""] + kinds)
        self.assertEqual(loaded(seeking(*words)), [1, len(words), len(kinds) + 1])

    def test_one_word(self):
        self.check(["b"], ["aaaaaaaaa", "baaaaaaaa"])
        self.check(["a"], ["bbbbbbbbb", "abbbbbbbb"])
        self.check(["abcdefgh"], ["iiiiiiiii", "abcdefghi"])

    def test_a_word_behind_nots(self):
        self.assertEqual(kind_texts("if not has a stop ; if not not not has b stop ;"),
                         ["", "ccccccccc", "acccccccc", "bcccccccc", "abccccccc"])

    def test_two_words(self):
        self.check(["b", "a"], ["ccccccccc", "acccccccc", "bcccccccc", "abccccccc"])

    def test_one_length_by_letters(self):
        self.check(["z", "b", "m"], ["aaaaaaaaa", "baaaaaaaa", "maaaaaaaa", "zaaaaaaaa", "bmaaaaaaa",
                                     "bzaaaaaaa", "mzaaaaaaa", "bmzaaaaaa"])

    def test_overlapping_words(self):
        self.check(["ab", "ba"], ["ccccccccc", "abccccccc", "baccccccc", "abacccccc"])
        self.check(["abc", "bcd"], ["eeeeeeeee", "abceeeeee", "bcdeeeeee", "abcdeeeee"])

    def test_one_word_within_another(self):
        self.check(["a", "ab"], ["ccccccccc", "acccccccc", "abccccccc"])
        self.check(["bab", "a"], ["ccccccccc", "acccccccc", "babcccccc"])
        self.check(["a", "aa", "aaa"], ["bbbbbbbbb", "abbbbbbbb", "aabbbbbbb", "aaabbbbbb"])

    def test_words_that_are_only_had_together(self):
        # The last word brings the three others with it.
        self.check(["ab", "bc", "b", "abc"], [
            "ddddddddd", "bdddddddd", "abddddddd", "bcddddddd", "abcdddddd", "abbcddddd"])

    def test_one_set_by_two_orders(self):
        self.check(["ab", "ba", "aba", "bab"], [
            "ccccccccc", "abccccccc", "baccccccc", "abacccccc", "babcccccc", "ababccccc", "abbaccccc"])

    def test_a_letter_between(self):
        # Side by side, the words bc and de would bring cd or eb with them.
        kinds = kind_texts(seeking("bc", "de", "cd", "eb"))
        self.assertIn("bcadeaaaa", kinds)
        # The letter between is the first that keeps them apart, free or not.
        self.assertIn("abacdeeee", kind_texts(seeking("ab", "cd", "bc", "da")))

    def test_lines_of_sixteen_letters(self):
        self.check(["ijklmnop", "abcdefgh"], [
            "qqqqqqqqq", "abcdefghq", "ijklmnopq", "abcdefghijklmnop"])

    def test_sixteen_letters_with_some_between(self):
        kinds = kind_texts(seeking("paaaq", "pbbbq", "pccq", "qp"))
        self.assertIn("paaaqapbbbqapccq", kinds)
        self.assertEqual(kinds[:5], ["", "ddddddddd", "qpddddddd", "pccqddddd", "paaaqdddd"])
        self.assertEqual(len(kinds), 17)

    def test_the_free_letter_is_the_first_of_all(self):
        self.check(["bcdefghi"], ["aaaaaaaaa", "bcdefghia"])
        self.check(["hgfedcba"], ["iiiiiiiii", "hgfedcbai"])
        self.check(["ac"], ["bbbbbbbbb", "acbbbbbbb"])

    def test_nine_letters_at_least(self):
        self.check(["abcdefgh", "i"], ["jjjjjjjjj", "ijjjjjjjj", "abcdefghj", "abcdefghi"])
        self.check(["abcdefgh", "ij"], ["kkkkkkkkk", "ijkkkkkkk", "abcdefghk", "abcdefghij"])

    def test_most_kinds(self):
        text = "".join(["if has " + "kmxz"[at] + " before a" + "bcdefghijklmnopq"[at] + " ;" for at in range(4)])
        text += "".join(["if is c" + letter + " before d" + letter + " ;" for letter in "abcdefghijkl"])
        self.assertEqual(loaded(text), [1, 16, 4 + 24 + 1 + 16])
        self.assertEqual(len(kind_texts(text)), 45)


class FirstLines(unittest.TestCase):

    def test_against_all_short_lines(self):
        lines = ["".join(letters) for length in range(9) for letters in itertools.product("abcd", repeat=length)]
        dice = Dice(7)
        for round_number in range(12):
            words = []
            while len(words) < 1 + round_number % 4:
                word = dice.one_of(SOUGHT + ("bbb", "cc", "bc", "cb", "aab"))
                if word not in words:
                    words.append(word)
            firsts = {}
            for line in lines:
                firsts.setdefault(tuple([word in line for word in words]), line)
            told = first_lines(words)
            self.assertEqual([line for line in told if len(line) <= 8], list(firsts.values()), words)


if __name__ == "__main__":
    unittest.main()
