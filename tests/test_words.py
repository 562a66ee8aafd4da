"""Points 2 and 3: cut and is_word."""

import itertools
import unittest

from precread.errors import NoWord
from precread.words import cut, is_word
from tests.helper import check_refused, check_same

# Every sign that may stand in a text, but blanks, line ends and the percent sign.
SIGNS = [chr(code) for code in range(ord("!"), ord("~") + 1) if code != 37]
SINGLES = ["(", ")", ";"]
INNER = [sign for sign in SIGNS if sign not in SINGLES]


def cut_slowly(text):
    """The words of a text without a tab, sign by sign, however long they are."""
    words = []
    going = False
    for sign in text:
        if sign in SINGLES:
            words.append(sign)
            going = False
        elif sign in " \n":
            going = False
        elif going:
            words[-1] += sign
        else:
            words.append(sign)
            going = True
    return words


class Cut(unittest.TestCase):

    def check_cut(self, text, words):
        found = cut(text)
        self.assertIs(type(found), list)
        check_same(self, found, words)

    def test_the_empty_text_has_no_words(self):
        self.check_cut("", [])

    def test_only_blanks_and_line_ends(self):
        for text in (" ", "\n", "   ", "\n\n\n", " \n \n\n  "):
            self.check_cut(text, [])

    def test_one_word(self):
        for sign in SIGNS:
            self.check_cut(sign, [sign])
        self.check_cut("word", ["word"])

    def test_blanks_part_words(self):
        self.check_cut("a + b", ["a", "+", "b"])
        self.check_cut("   a    +  b ", ["a", "+", "b"])

    def test_line_ends_part_words(self):
        self.check_cut("a\n+\nb", ["a", "+", "b"])
        self.check_cut("\n\na\n\n\n+\n\nb\n", ["a", "+", "b"])

    def test_blanks_and_line_ends_part_words(self):
        self.check_cut(" \n a \n\n  + \n b\n \n", ["a", "+", "b"])

    def test_the_order_and_repeated_words_stay(self):
        self.check_cut("b a b b a", ["b", "a", "b", "b", "a"])

    def test_only_the_three_are_words_by_themselves(self):
        for sign in INNER:
            self.check_cut(f"a{sign}b", [f"a{sign}b"])
            self.check_cut(f"{sign}{sign}", [f"{sign}{sign}"])
        self.check_cut("a+b", ["a+b"])
        self.check_cut("[a],{b}:", ["[a],{b}:"])

    def test_singles_with_words_right_beside_them(self):
        for single in SINGLES:
            self.check_cut(f"a{single}b", ["a", single, "b"])
            self.check_cut(f"{single}b", [single, "b"])
            self.check_cut(f"a{single}", ["a", single])
            self.check_cut(f"\na{single}\nb", ["a", single, "b"])
        self.check_cut("(a+b)*c;d", ["(", "a+b", ")", "*c", ";", "d"])

    def test_singles_beside_each_other(self):
        for length in range(1, 5):
            for row in itertools.product(SINGLES, repeat=length):
                self.check_cut("".join(row), list(row))
        self.check_cut("((a));;", ["(", "(", "a", ")", ")", ";", ";"])

    def test_many_singles_in_a_row_are_not_one_long_word(self):
        self.check_cut("(" * 20 + ")" * 20 + ";" * 20,
                       ["("] * 20 + [")"] * 20 + [";"] * 20)

    def test_tell_is_cut_like_any_word(self):
        self.check_cut("tell left 5 +;", ["tell", "left", "5", "+", ";"])

    def test_words_of_eight_signs(self):
        self.check_cut("abcdefgh", ["abcdefgh"])
        self.check_cut("abcdefgh ijklmnop\nqrstuvwx",
                       ["abcdefgh", "ijklmnop", "qrstuvwx"])
        self.check_cut("(abcdefgh);", ["(", "abcdefgh", ")", ";"])
        self.check_cut("abcdefgh(ijklmnop;qrstuvwx",
                       ["abcdefgh", "(", "ijklmnop", ";", "qrstuvwx"])

    def test_words_of_more_than_eight_signs(self):
        for text in ("abcdefghi", "abcdefghij", "a" * 100, "+++++++++",
                     "a b abcdefghi", "abcdefghi a b", "a\nabcdefghi\nb",
                     "(abcdefghi)", ";abcdefghi", "abcdefghi;", "a;b(abcdefghi"):
            check_refused(self, NoWord, cut, text)

    def test_a_tab_is_refused(self):
        for text in ("\t", "\ta", "a\tb", "a\t", "a \t b", "a\n\t\nb", "(\t)",
                     "a;\t", "\t\t", "  \t  "):
            check_refused(self, NoWord, cut, text)

    def test_a_tab_beside_a_word_that_is_too_long(self):
        for text in ("\tabcdefghi", "abcdefghi\t", "abcd\tefghi", "a\tb abcdefghi",
                     "abcdefghi a\tb"):
            check_refused(self, NoWord, cut, text)

    def test_each_text_of_a_few_signs(self):
        for length in range(6):
            for row in itertools.product("a(;\n ", repeat=length):
                text = "".join(row)
                self.check_cut(text, cut_slowly(text))

    def test_texts_of_many_signs(self):
        for step in range(1, len(SIGNS)):
            signs = [SIGNS[k * step % len(SIGNS)] for k in range(200)]
            for size in (1, 3, 8):
                rows = ["".join(signs[k:k + size]) for k in range(0, 200, size)]
                text = " ".join(rows) + "\n"
                self.check_cut(text, cut_slowly(text))

    def test_a_list_that_was_told_is_the_askers_own(self):
        text = "a ( b ) ;"
        first = cut(text)
        second = cut(text)
        self.assertIsNot(first, second)
        first.append("c")
        first[0] = "d"
        self.assertEqual(second, ["a", "(", "b", ")", ";"])
        self.assertEqual(cut(text), ["a", "(", "b", ")", ";"])
        empty = cut("")
        empty.append("a")
        self.assertEqual(cut(""), [])

    def test_a_refusal_changes_nothing_for_later_texts(self):
        check_refused(self, NoWord, cut, "a b\t")
        check_refused(self, NoWord, cut, "a b abcdefghi")
        self.check_cut("c", ["c"])


class IsWord(unittest.TestCase):

    def check_word(self, thing, wanted):
        self.assertIs(is_word(thing), wanted, repr(thing))

    def test_words_of_one_sign(self):
        for sign in INNER:
            self.check_word(sign, True)

    def test_words_of_up_to_eight_signs(self):
        for length in range(1, 9):
            for sign in INNER:
                self.check_word(sign * length, True)
        for word in ("abcdefgh", "a+b-c=d!", "12345678", "~~~~~~~~", "!!!!!!!!"):
            self.check_word(word, True)

    def test_words_of_more_than_eight_signs(self):
        for word in ("abcdefghi", "+" * 9, "a" * 10, "a" * 1000):
            self.check_word(word, False)

    def test_the_empty_text(self):
        self.check_word("", False)

    def test_tell_alone_is_none(self):
        self.check_word("tell", False)
        for word in ("Tell", "TELL", "tel", "tell1", "tells", "atell", "telltell",
                     "left", "right", "none", "before", "behind"):
            self.check_word(word, True)

    def test_brackets_and_semicolon(self):
        for single in SINGLES:
            self.check_word(single, False)
            self.check_word(single * 2, False)
            for text in (f"a{single}b", f"{single}b", f"a{single}", f"tell{single}"):
                self.check_word(text, False)
        self.check_word("()", False)

    def test_blanks_line_ends_and_tabs(self):
        for gap in (" ", "\n", "\t"):
            for text in (gap, gap * 3, f"a{gap}b", f"{gap}b", f"a{gap}", f"tell{gap}"):
                self.check_word(text, False)

    def test_whole_numbers_truths_and_none(self):
        for thing in (0, 1, -1, 5, 30, 12345678, 2 ** 200, True, False, None):
            self.check_word(thing, False)

    def test_tuples_and_lists(self):
        for thing in ((), [], ("a",), ["a"], ("a", "b"), ["a", "b"], [["a"]], (("a",),),
                      ("tell", "left", 5, "+"), ["tell"], [None], (True,), [1, 2]):
            self.check_word(thing, False)

    def test_each_word_that_is_cut(self):
        for word in cut("a ab abcdefgh left + Tell 12 [x] <=>"):
            self.check_word(word, True)

    def test_what_is_asked_about_stays(self):
        thing = ["a", ["b"]]
        self.check_word(thing, False)
        self.assertEqual(thing, ["a", ["b"]])

    def test_asked_again_it_tells_the_same(self):
        for _ in range(3):
            self.check_word("a", True)
            self.check_word("tell", False)


if __name__ == "__main__":
    unittest.main()
