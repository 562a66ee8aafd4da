"""Points 4 and 5: added and role."""

import copy
import unittest

from precread.errors import Clash, NoTelling
from precread.tables import added, role
from tests.helper import check_refused, check_same, table_of, told

KINDS = ["left", "right", "none", "before", "behind"]
BEHIND = ["left", "right", "none", "behind"]

PLUS = told("left", 5, "+")
MINUS = told("left", 5, "-")
POWER = told("right", 9, "^")
EQUAL = told("none", 3, "=")
SIGN = told("before", 7, "-")
FACTORIAL = told("behind", 11, "!")
ALL = [PLUS, MINUS, POWER, EQUAL, SIGN, FACTORIAL]


class Added(unittest.TestCase):

    def check_added(self, table, telling):
        before = copy.deepcopy(table)
        found = added(table, telling)
        self.assertIs(type(found), list)
        self.assertIsNot(found, table)
        check_same(self, found, before + [telling])
        check_same(self, table, before)
        return found

    def test_each_kind_to_the_empty_table(self):
        for kind in KINDS:
            self.check_added([], told(kind, 5, "+"))

    def test_a_telling_is_put_at_the_end(self):
        table = []
        for telling in ALL:
            table = self.check_added(table, telling)
        check_same(self, table, ALL)

    def test_the_order_of_telling_is_kept(self):
        table = []
        for telling in ALL[::-1]:
            table = self.check_added(table, telling)
        check_same(self, table, ALL[::-1])

    def test_each_strength(self):
        for strength in range(1, 31):
            for kind in KINDS:
                self.check_added([], told(kind, strength, "+"))

    def test_strengths_that_are_too_small_or_too_great(self):
        for strength in (0, -1, -30, 31, 32, 100, 2 ** 100, -2 ** 100):
            for kind in KINDS:
                check_refused(self, NoTelling, added, [], told(kind, strength, "+"))

    def test_strengths_that_are_no_whole_numbers(self):
        for strength in (True, False, None, "5", "", "05", (5,), [5], (), []):
            for kind in KINDS:
                check_refused(self, NoTelling, added, [], told(kind, strength, "+"))

    def test_wrong_first_entries(self):
        for first in ("Tell", "told", "", "tell ", "before", None, True, 1, ("tell",), ["tell"]):
            check_refused(self, NoTelling, added, [], (first, "left", 5, "+"))

    def test_wrong_kinds(self):
        for kind in ("Left", "LEFT", "", "between", "tell", "lef", "left ", "None",
                     None, True, False, 0, 1, ("left",), ["left"], [], ()):
            check_refused(self, NoTelling, added, [], told(kind, 5, "+"))

    def test_wrong_words(self):
        for word in ("", "tell", "(", ")", ";", "a;", "(a", "a b", " ", "\n", "a\n", "a\tb",
                     "\t", "abcdefghi", None, True, False, 5, ("+",), ["+"], [], ()):
            for kind in KINDS:
                check_refused(self, NoTelling, added, [], told(kind, 5, word))

    def test_words_that_are_unusual_but_plain(self):
        for word in ("a", "abcdefgh", "left", "before", "Tell", "5", "!", "~", "\"", "'", "\\"):
            for kind in KINDS:
                self.check_added([], told(kind, 5, word))

    def test_tuples_of_another_length(self):
        for thing in ((), ("tell",), ("tell", "left"), ("tell", "left", 5),
                      ("tell", "left", 5, "+", "+"), ("tell", "left", 5, "+", None),
                      ("left", 5, "+"), ("tell", "tell", "left", 5, "+")):
            check_refused(self, NoTelling, added, [], thing)

    def test_the_entries_in_another_order(self):
        for thing in (("tell", 5, "left", "+"), ("tell", "left", "+", 5),
                      ("tell", "+", 5, "left"), ("left", "tell", 5, "+")):
            check_refused(self, NoTelling, added, [], thing)

    def test_lists_in_place_of_tuples(self):
        for telling in ALL:
            check_refused(self, NoTelling, added, [], list(telling))
        check_refused(self, NoTelling, added, [], [])

    def test_a_telling_inside_of_something(self):
        check_refused(self, NoTelling, added, [], (PLUS,))
        check_refused(self, NoTelling, added, [], [PLUS])

    def test_things_of_other_kinds(self):
        for thing in (None, True, False, 0, 4, 5, "", "tell", "tell left 5 +", "abcd",
                      ("a", "b", "c", "d"), ("between", "+", "a", "b"), (None, None, None, None)):
            check_refused(self, NoTelling, added, [], thing)

    def test_no_telling_comes_before_clash(self):
        table = table_of(*ALL)
        for thing in (told("Left", 9, "+"), told("right", 0, "+"), told("right", 5, "tell"),
                      told("right", True, "+"), list(PLUS), PLUS + (1,), None):
            check_refused(self, NoTelling, added, table, thing)

    def test_one_strength_with_one_kind(self):
        for kind in KINDS:
            table = table_of(told(kind, 5, "a"))
            table = self.check_added(table, told(kind, 5, "b"))
            self.check_added(table, told(kind, 5, "c"))

    def test_one_strength_with_another_kind(self):
        for first in KINDS:
            for second in KINDS:
                if second != first:
                    table = table_of(told(first, 5, "a"))
                    check_refused(self, Clash, added, table, told(second, 5, "b"))

    def test_a_strength_told_anywhere_in_the_table(self):
        table = table_of(*ALL)
        for telling in ALL:
            for kind in KINDS:
                if kind != telling[1]:
                    check_refused(self, Clash, added, table, told(kind, telling[2], "x"))

    def test_another_strength_with_another_kind(self):
        for first in KINDS:
            for second in KINDS:
                for strength in (1, 4, 6, 30):
                    table = table_of(told(first, 5, "a"))
                    self.check_added(table, told(second, strength, "b"))

    def test_one_word_in_the_role_behind(self):
        for first in BEHIND:
            for second in BEHIND:
                table = table_of(told(first, 5, "a"))
                check_refused(self, Clash, added, table, told(second, 6, "a"))

    def test_one_word_in_the_role_ahead(self):
        table = table_of(told("before", 5, "a"))
        check_refused(self, Clash, added, table, told("before", 6, "a"))

    def test_one_word_in_both_roles(self):
        for kind in BEHIND:
            table = table_of(told("before", 5, "a"))
            table = self.check_added(table, told(kind, 6, "a"))
            check_refused(self, Clash, added, table, told("before", 7, "a"))
            table = table_of(told(kind, 5, "a"))
            table = self.check_added(table, told("before", 6, "a"))
            for other in BEHIND:
                check_refused(self, Clash, added, table, told(other, 7, "a"))

    def test_one_word_in_both_roles_by_one_strength(self):
        for kind in BEHIND:
            table = table_of(told("before", 5, "a"))
            check_refused(self, Clash, added, table, told(kind, 5, "a"))
            table = table_of(told(kind, 5, "a"))
            check_refused(self, Clash, added, table, told("before", 5, "a"))

    def test_the_same_telling_again(self):
        for kind in KINDS:
            table = table_of(told(kind, 5, "a"))
            check_refused(self, Clash, added, table, told(kind, 5, "a"))
        table = table_of(*ALL)
        for telling in ALL:
            check_refused(self, Clash, added, table, telling)

    def test_words_are_the_same_only_to_the_letter(self):
        table = table_of(told("left", 5, "a"))
        for word in ("A", "aa", "b", "ab"):
            self.check_added(table, told("left", 6, word))

    def test_many_tellings(self):
        table = []
        for at in range(64):
            table = self.check_added(table, told(KINDS[at % 5], at % 30 + 1, f"w{at}"))
        self.assertEqual(len(table), 64)

    def test_a_table_that_was_told_is_the_askers_own(self):
        table = []
        first = added(table, PLUS)
        second = added(first, POWER)
        first.append(EQUAL)
        table.append(SIGN)
        self.assertEqual(second, [PLUS, POWER])
        second.clear()
        self.assertEqual(first, [PLUS, EQUAL])
        self.assertEqual(added([], PLUS), [PLUS])

    def test_two_tables_from_one(self):
        table = table_of(PLUS)
        one = self.check_added(table, told("right", 9, "^"))
        other = self.check_added(table, told("left", 9, "^"))
        self.assertEqual([one[1], other[1]], [told("right", 9, "^"), told("left", 9, "^")])

    def test_a_refusal_changes_nothing_for_later_tellings(self):
        table = table_of(PLUS)
        check_refused(self, Clash, added, table, told("right", 5, "^"))
        self.check_added(table, told("right", 6, "^"))


class Role(unittest.TestCase):

    def check_role(self, table, word, ahead, wanted):
        before = copy.deepcopy(table)
        for _ in range(2):
            check_same(self, role(table, word, ahead), wanted)
        check_same(self, table, before)

    def test_the_empty_table(self):
        self.check_role([], "+", True, None)
        self.check_role([], "+", False, None)

    def test_the_kinds_of_each_role(self):
        table = table_of(told("before", 5, "a"))
        self.check_role(table, "a", True, told("before", 5, "a"))
        self.check_role(table, "a", False, None)
        for kind in BEHIND:
            table = table_of(told(kind, 5, "a"))
            self.check_role(table, "a", True, None)
            self.check_role(table, "a", False, told(kind, 5, "a"))

    def test_a_word_in_both_roles(self):
        for tellings in (ALL, ALL[::-1]):
            table = table_of(*tellings)
            self.check_role(table, "-", True, SIGN)
            self.check_role(table, "-", False, MINUS)

    def test_words_in_one_role(self):
        table = table_of(*ALL)
        for telling in (PLUS, POWER, EQUAL, FACTORIAL):
            self.check_role(table, telling[3], False, telling)
            self.check_role(table, telling[3], True, None)

    def test_words_in_no_role(self):
        table = table_of(*ALL)
        for word in ("a", "left", "tell", "(", ")", ";", "", "--", "5"):
            self.check_role(table, word, True, None)
            self.check_role(table, word, False, None)

    def test_the_first_and_the_last_telling(self):
        table = table_of(*[told("left", 5, f"w{at}") for at in range(64)])
        for at in (0, 1, 62, 63):
            self.check_role(table, f"w{at}", False, told("left", 5, f"w{at}"))

    def test_what_is_told_later_does_not_change_an_answer(self):
        table = table_of(SIGN)
        answer = role(table, "-", True)
        later = added(table, MINUS)
        self.check_role(table, "-", False, None)
        self.check_role(later, "-", False, MINUS)
        later.clear()
        table.clear()
        self.assertEqual(answer, SIGN)


if __name__ == "__main__":
    unittest.main()
