"""Point 10: tree_of."""

import copy
import itertools
import random
import unittest

from precread.errors import NoPart, TooMuch
from precread.reading import tree_of
from precread.tables import added
from precread.words import is_word
from tests.helper import (ALL_KINDS, check_refused, check_same, shown_slowly, table_of, told,
                          told_as, weak_operands)


def brackets_of(row):
    """The pairs of brackets of a row, as spans of its other words; None where they do not pair."""
    spans, opened, many = [], [], 0
    for word in row:
        if word == "(":
            opened.append(many)
        elif word == ")":
            if not opened:
                return None
            spans.append((opened.pop(), many))
        else:
            many += 1
    return None if opened else spans


def trees_between(table, words, first, end, known):
    """Each tree of the table with just these words, with the spans of its subtrees and of the
    operands that are not strong enough."""
    if (first, end) in known:
        return known[first, end]
    here = (first, end)
    found = []
    if end - first == 1 and is_word(words[first]) \
            and all(telling[3] != words[first] for telling in table):
        found.append((words[first], {here}, set()))
    for form, at in ([("before", first), ("behind", end - 1)]
                     + [("between", at) for at in range(first + 1, end - 1)]):
        if end - first < 2 or told_as(table, form, words[at]) is None:
            continue
        spans = [span for span in ((first, at), (at + 1, end)) if span[0] < span[1]]
        for sides in itertools.product(*[trees_between(table, words, *span, known)
                                         for span in spans]):
            tree = (form, words[at], *[side[0] for side in sides])
            weak = {spans[place] for place in weak_operands(table, tree)}
            found.append((tree, {here}.union(*[side[1] for side in sides]),
                          weak.union(*[side[2] for side in sides])))
    known[first, end] = found
    return found


def trees_slowly(table, row):
    """Point 10, word by word: each tree of a row, by a trial of all of them."""
    brackets = brackets_of(row)
    words = [word for word in row if word not in ("(", ")")]
    if brackets is None or not words:
        return []
    return [tree for tree, spans, weak in trees_between(table, words, 0, len(words), {})
            if set(brackets) <= spans and weak <= set(brackets)]


def bracketed(row, times=1):
    return ["("] * times + row + [")"] * times


class TreeOf(unittest.TestCase):

    def check_read(self, table, row, wanted):
        if isinstance(row, str):
            row = row.split()
        before = copy.deepcopy((table, row))
        for _ in range(2):
            check_same(self, tree_of(table, row), wanted)
        self.assertEqual((table, row), before)

    def check_no_part(self, table, row):
        check_refused(self, NoPart, tree_of, table, row.split() if isinstance(row, str) else row)

    def check_slowly(self, table, row):
        trees = trees_slowly(table, row)
        self.assertLessEqual(len(trees), 1, row)
        if not trees:
            with self.assertRaises(NoPart, msg=row):
                tree_of(table, row)
        else:
            self.assertEqual(tree_of(table, row), trees[0], row)
        return len(trees)


class Alone(TreeOf):

    def test_names(self):
        for name in ("a", "abcdefgh", "left", "tells", "5", "[x]", "--"):
            self.check_read([], [name], name)
            self.check_read(ALL_KINDS, [name], name)

    def test_names_in_brackets(self):
        for times in range(1, 50):
            self.check_read(ALL_KINDS, bracketed(["a"], times), "a")
            self.check_read([], bracketed(["a"], times), "a")

    def test_each_operator(self):
        for telling in ALL_KINDS:
            word = telling[3]
            if telling[1] == "before":
                self.check_read(ALL_KINDS, [word, "a"], ("before", word, "a"))
            elif telling[1] == "behind":
                self.check_read(ALL_KINDS, ["a", word], ("behind", word, "a"))
            else:
                self.check_read(ALL_KINDS, ["a", word, "b"], ("between", word, "a", "b"))

    def test_each_kind_in_a_table_of_its_own(self):
        for kind in ("left", "right", "none"):
            self.check_read(table_of(told(kind, 5, "x")), "a x b", ("between", "x", "a", "b"))
            self.check_no_part(table_of(told(kind, 5, "x")), "x a")
            self.check_no_part(table_of(told(kind, 5, "x")), "a x")
        self.check_read(table_of(told("before", 5, "x")), "x a", ("before", "x", "a"))
        self.check_no_part(table_of(told("before", 5, "x")), "a x")
        self.check_no_part(table_of(told("before", 5, "x")), "a x b")
        self.check_read(table_of(told("behind", 5, "x")), "a x", ("behind", "x", "a"))
        self.check_no_part(table_of(told("behind", 5, "x")), "x a")
        self.check_no_part(table_of(told("behind", 5, "x")), "a x b")

    def test_the_same_name_on_both_sides(self):
        self.check_read(ALL_KINDS, "a + a", ("between", "+", "a", "a"))

    def test_a_word_is_a_name_until_it_is_told(self):
        self.check_read([], "+", "+")
        self.check_no_part([], "a + b")
        table = table_of(told("before", 5, "-"))
        self.check_read(table, "- +", ("before", "-", "+"))
        table = added(table, told("left", 6, "+"))
        self.check_no_part(table, "- +")
        self.check_no_part(table, "+")


class Several(TreeOf):

    def test_two_of_kind_left(self):
        self.check_read(ALL_KINDS, "a + b + c",
                        ("between", "+", ("between", "+", "a", "b"), "c"))
        self.check_read(ALL_KINDS, "a + b - c",
                        ("between", "-", ("between", "+", "a", "b"), "c"))
        self.check_read(ALL_KINDS, "a - b + c",
                        ("between", "+", ("between", "-", "a", "b"), "c"))

    def test_two_of_kind_right(self):
        self.check_read(ALL_KINDS, "a ^ b ^ c",
                        ("between", "^", "a", ("between", "^", "b", "c")))
        self.check_read(ALL_KINDS, "a ^ b ** c",
                        ("between", "^", "a", ("between", "**", "b", "c")))
        self.check_read(ALL_KINDS, "a ** b ^ c",
                        ("between", "**", "a", ("between", "^", "b", "c")))

    def test_two_of_kind_none(self):
        table = table_of(told("none", 5, "<"), told("none", 5, ">"), told("none", 6, "="))
        for row in ("a < b < c", "a < b > c", "a > b < c", "a < b = c > d"):
            self.check_no_part(table, row)
        self.check_read(table, "a < b = c", ("between", "<", "a", ("between", "=", "b", "c")))
        self.check_read(table, "a = b < c", ("between", "<", ("between", "=", "a", "b"), "c"))
        self.check_read(table, "( a < b ) < c", ("between", "<", ("between", "<", "a", "b"), "c"))
        self.check_read(table, "a < ( b > c )", ("between", "<", "a", ("between", ">", "b", "c")))

    def test_two_of_kind_before(self):
        table = table_of(told("before", 5, "p"), told("before", 5, "q"), told("before", 6, "r"))
        self.check_read(table, "p q a", ("before", "p", ("before", "q", "a")))
        self.check_read(table, "p p a", ("before", "p", ("before", "p", "a")))
        self.check_read(table, "p r a", ("before", "p", ("before", "r", "a")))
        self.check_no_part(table, "r p a")
        self.check_read(table, "r ( p a )", ("before", "r", ("before", "p", "a")))

    def test_two_of_kind_behind(self):
        table = table_of(told("behind", 5, "p"), told("behind", 5, "q"), told("behind", 6, "r"))
        self.check_read(table, "a p q", ("behind", "q", ("behind", "p", "a")))
        self.check_read(table, "a p p", ("behind", "p", ("behind", "p", "a")))
        self.check_read(table, "a r p", ("behind", "p", ("behind", "r", "a")))
        self.check_no_part(table, "a p r")
        self.check_read(table, "( a p ) r", ("behind", "r", ("behind", "p", "a")))

    def test_two_of_different_strengths_between(self):
        for one in ("left", "right", "none"):
            for other in ("left", "right", "none"):
                table = table_of(told(one, 5, "+"), told(other, 7, "*"))
                self.check_read(table, "a + b * c",
                                ("between", "+", "a", ("between", "*", "b", "c")))
                self.check_read(table, "a * b + c",
                                ("between", "+", ("between", "*", "a", "b"), "c"))

    def test_strengths_that_fall_and_rise(self):
        self.check_read(ALL_KINDS, "a = b + c * d ^ e",
                        ("between", "=", "a", ("between", "+", "b", (
                            "between", "*", "c", ("between", "^", "d", "e")))))
        self.check_read(ALL_KINDS, "a ^ b * c + d = e",
                        ("between", "=", ("between", "+", ("between", "*", (
                            "between", "^", "a", "b"), "c"), "d"), "e"))
        self.check_read(ALL_KINDS, "a * b + c * d", ("between", "+", (
            "between", "*", "a", "b"), ("between", "*", "c", "d")))
        self.check_read(ALL_KINDS, "a + b ^ c ** d * e - f", ("between", "-", (
            "between", "+", "a", ("between", "*", (
                "between", "^", "b", ("between", "**", "c", "d")), "e")), "f"))

    def test_an_operator_ahead_of_an_operand_beside_one_between(self):
        self.check_read(ALL_KINDS, "- a * b", ("before", "-", ("between", "*", "a", "b")))
        self.check_read(ALL_KINDS, "- a + b", ("between", "+", ("before", "-", "a"), "b"))
        self.check_read(ALL_KINDS, "a + - b", ("between", "+", "a", ("before", "-", "b")))
        self.check_no_part(ALL_KINDS, "a * - b")
        self.check_read(ALL_KINDS, "a * ( - b )", ("between", "*", "a", ("before", "-", "b")))
        self.check_no_part(ALL_KINDS, "a * - b + c")
        self.check_no_part(ALL_KINDS, "a ^ - b")
        self.check_read(ALL_KINDS, "a + - b * c",
                        ("between", "+", "a", ("before", "-", ("between", "*", "b", "c"))))
        self.check_read(ALL_KINDS, "a - - b - c", ("between", "-", (
            "between", "-", "a", ("before", "-", "b")), "c"))
        self.check_read(ALL_KINDS, "~ a ^ ~ b",
                        ("between", "^", ("before", "~", "a"), ("before", "~", "b")))

    def test_an_operator_ahead_of_and_one_behind_an_operand(self):
        table = table_of(told("before", 5, "p"), told("behind", 7, "q"), told("behind", 3, "r"))
        self.check_read(table, "p a q", ("before", "p", ("behind", "q", "a")))
        self.check_read(table, "p a r", ("behind", "r", ("before", "p", "a")))
        self.check_read(table, "p a q r",
                        ("behind", "r", ("before", "p", ("behind", "q", "a"))))
        self.check_no_part(table, "p a r q")
        self.check_read(table, "( p a ) q", ("behind", "q", ("before", "p", "a")))
        self.check_read(table, "p ( a r )", ("before", "p", ("behind", "r", "a")))

    def test_an_operator_behind_an_operand_beside_one_between(self):
        self.check_read(ALL_KINDS, "a + b !", ("between", "+", "a", ("behind", "!", "b")))
        self.check_read(ALL_KINDS, "a ! + b", ("between", "+", ("behind", "!", "a"), "b"))
        self.check_read(ALL_KINDS, "a + b ?", ("behind", "?", ("between", "+", "a", "b")))
        self.check_no_part(ALL_KINDS, "a ? + b")
        self.check_read(ALL_KINDS, "( a ? ) + b", ("between", "+", ("behind", "?", "a"), "b"))
        self.check_read(ALL_KINDS, "a + ( b ? )", ("between", "+", "a", ("behind", "?", "b")))

    def test_a_word_that_is_told_in_both_roles(self):
        self.check_read(ALL_KINDS, "- a - - b", ("between", "-", ("before", "-", "a"),
                                                 ("before", "-", "b")))
        self.check_read(ALL_KINDS, "? a ?", ("before", "?", ("behind", "?", "a")))
        self.check_read(ALL_KINDS, "? ? a ? ?", ("before", "?", ("before", "?", (
            "behind", "?", ("behind", "?", "a")))))
        for row in ("-", "- -", "a - -", "? ?", "a ? ? b", "- a -", "?"):
            self.check_no_part(ALL_KINDS, row)
        for kind in ("left", "right", "none"):
            table = table_of(told("before", 5, "x"), told(kind, 3, "x"))
            self.check_read(table, "x a x x b", ("between", "x", ("before", "x", "a"),
                                                 ("before", "x", "b")))
            table = table_of(told(kind, 5, "x"), told("before", 3, "x"))
            self.check_read(table, "x a x b", ("before", "x", ("between", "x", "a", "b")))
            self.check_no_part(table, "a x x b")
            self.check_read(table, "a x ( x b )", ("between", "x", "a", ("before", "x", "b")))

    def test_the_order_of_telling_does_not_matter(self):
        for row in ("a + b * c ^ d", "- a - b", "a = b !", "? a * ( b - c ) ?"):
            self.assertEqual(tree_of(ALL_KINDS[::-1], row.split()), tree_of(ALL_KINDS, row.split()))


class Brackets(TreeOf):

    def test_brackets_that_are_due(self):
        self.check_read(ALL_KINDS, "( a + b ) * c",
                        ("between", "*", ("between", "+", "a", "b"), "c"))
        self.check_read(ALL_KINDS, "a * ( b + c )",
                        ("between", "*", "a", ("between", "+", "b", "c")))
        self.check_read(ALL_KINDS, "a - ( b - c )",
                        ("between", "-", "a", ("between", "-", "b", "c")))
        self.check_read(ALL_KINDS, "( a ^ b ) ^ c",
                        ("between", "^", ("between", "^", "a", "b"), "c"))
        self.check_read(ALL_KINDS, "- ( a + b )", ("before", "-", ("between", "+", "a", "b")))
        self.check_read(ALL_KINDS, "( a + b ) !", ("behind", "!", ("between", "+", "a", "b")))

    def test_brackets_that_are_not_due(self):
        self.check_read(ALL_KINDS, "a + ( b * c )",
                        ("between", "+", "a", ("between", "*", "b", "c")))
        self.check_read(ALL_KINDS, "( a + b ) + c",
                        ("between", "+", ("between", "+", "a", "b"), "c"))
        self.check_read(ALL_KINDS, "a ^ ( b ^ c )",
                        ("between", "^", "a", ("between", "^", "b", "c")))
        self.check_read(ALL_KINDS, "- ( a * b )", ("before", "-", ("between", "*", "a", "b")))
        self.check_read(ALL_KINDS, "( - a ) + ( b ! )",
                        ("between", "+", ("before", "-", "a"), ("behind", "!", "b")))

    def test_brackets_round_names_and_round_the_whole(self):
        self.check_read(ALL_KINDS, "( a ) + ( b )", ("between", "+", "a", "b"))
        self.check_read(ALL_KINDS, "( ( a ) )", "a")
        self.check_read(ALL_KINDS, "( a + b )", ("between", "+", "a", "b"))
        self.check_read(ALL_KINDS, "( ( - ( a ) ) )", ("before", "-", "a"))
        self.check_read(ALL_KINDS, "( a ) !", ("behind", "!", "a"))

    def test_several_pairs_round_the_same(self):
        for row, tree in ((["a", "+", "b"], ("between", "+", "a", "b")),
                          (["-", "a"], ("before", "-", "a")),
                          (["a", "!"], ("behind", "!", "a"))):
            for times in range(1, 20):
                self.check_read(ALL_KINDS, bracketed(row, times), tree)
                self.check_read(ALL_KINDS, ["a", "^"] + bracketed(row, times),
                                ("between", "^", "a", tree))
                self.check_read(ALL_KINDS, bracketed(row, times) + ["^", "a"],
                                ("between", "^", tree, "a"))

    def test_brackets_that_do_not_pair_up(self):
        for row in ("(", ")", "( a", "a )", ") a (", "( ( a )", "( a ) )", "a + ( b", "a ) + b",
                    "( a + b ) )", ") (", "( a ) ) ( b", "a + ) b (", "a + b )", "( a + b"):
            self.check_no_part(ALL_KINDS, row)

    def test_brackets_round_no_subtree(self):
        for row in ("( )", "( ) a", "a ( )", "( ( ) )", "a + ( )", "( a + ) b", "a ( + b )",
                    "a ( + ) b", "( - ) a", "a ( ! )", "- ( )", "( ) !", "( a + b", "( a ( + b ) )",
                    "a + ( b * ) c", "( a ) ( + ) ( b )", "( tell )", "( ; )"):
            self.check_no_part(ALL_KINDS, row)

    def test_brackets_change_which_tree_it_is(self):
        self.check_read(ALL_KINDS, "a + ( b - c ) * ( d ^ e ) ^ f", ("between", "+", "a", (
            "between", "*", ("between", "-", "b", "c"), (
                "between", "^", ("between", "^", "d", "e"), "f"))))
        self.check_read(ALL_KINDS, "( a = b ) = ( c = d )", ("between", "=", (
            "between", "=", "a", "b"), ("between", "=", "c", "d")))


class NoTrees(TreeOf):

    def test_the_empty_row(self):
        self.check_no_part([], [])
        self.check_no_part(ALL_KINDS, [])

    def test_two_names_side_by_side(self):
        for row in ("a b", "a a", "a b c", "a + b c", "a b + c", "( a ) ( b )", "a ( b )",
                    "( a ) b", "a ! b", "- a b", "a - b - c d", "( a b )"):
            self.check_no_part(ALL_KINDS, row)
            self.check_no_part([], row)

    def test_operators_without_operands(self):
        for row in ("+", "-", "!", "~", "+ a", "a +", "a + + b", "a * * b", "~", "a + ~", "! a",
                    "a ~", "a ~ b", "a + !", "= =", "- ! a", "a = = b", "( + a )", "( a + )"):
            self.check_no_part(ALL_KINDS, row)

    def test_semicolon_and_tell(self):
        for row in (";", "tell", "a ;", "; a", "a + ;", "a ; b", "; + a", "tell + a", "a + tell",
                    "a tell b", "tell a", "( ; )", "- tell", "tell !", "; ;", "a + b ;",
                    "tell left 5 x"):
            self.check_no_part(ALL_KINDS, row)
            self.check_no_part([], row)

    def test_operands_that_are_not_strong_enough(self):
        for row in ("a = b = c", "a * - b", "~ - a", "- ? a", "a ? !", "a ? ? !", "a + ? b",
                    "~ a ? !", "a ^ - b ^ c", "a = ? b", "a = b + c = d"):
            self.check_no_part(ALL_KINDS, row)

    def test_a_good_row_with_one_word_more(self):
        for word in ("a", "(", ")", ";", "tell"):
            for at in range(6):
                row = ["a", "+", "b", "*", "c"]
                row.insert(at, word)
                self.check_no_part(ALL_KINDS, row)


class Sizes(TreeOf):

    def test_ninety_nine_words(self):
        tree = "a"
        for _ in range(98):
            tree = ("before", "-", tree)
        self.check_read(ALL_KINDS, ["-"] * 98 + ["a"], tree)
        tree = "a"
        for _ in range(98):
            tree = ("behind", "!", tree)
        self.check_read(ALL_KINDS, ["a"] + ["!"] * 98, tree)
        self.check_read(ALL_KINDS, bracketed(["a"], 49), "a")
        tree = "a"
        for _ in range(49):
            tree = ("between", "+", tree, "b")
        self.check_read(ALL_KINDS, ["a"] + ["+", "b"] * 49, tree)
        tree = "b"
        for _ in range(49):
            tree = ("between", "^", "a", tree)
        self.check_read(ALL_KINDS, ["a", "^"] * 49 + ["b"], tree)

    def test_brackets_in_brackets_up_to_ninety_nine_words(self):
        row, tree = ["a"], "a"
        for _ in range(24):
            row, tree = ["a", "-"] + bracketed(row), ("between", "-", "a", tree)
        self.check_read(ALL_KINDS, bracketed(row), tree)
        row, tree = ["a"], "a"
        for _ in range(24):
            row, tree = bracketed(row) + ["^", "b"], ("between", "^", tree, "b")
        self.check_read(ALL_KINDS, bracketed(row), tree)

    def test_ninety_nine_words_without_a_tree(self):
        for row in (["a"] * 99, ["("] * 99, ["-"] * 99, [")"] * 99, [";"] * 99, ["tell"] * 99,
                    ["("] * 49 + ["a"] + [")"] * 48 + ["!"], ["a"] + ["="] * 98,
                    ["("] * 50 + [")"] * 49):
            self.assertEqual(len(row), 99)
            self.check_no_part(ALL_KINDS, row)

    def test_more_than_ninety_nine_words(self):
        for many in (100, 101, 150, 1000):
            for row in (["-"] * (many - 1) + ["a"], ["a"] + ["!"] * (many - 1),
                        bracketed(["-", "a"], many // 2), ["a"] + ["+", "b"] * (many // 2)):
                self.assertGreaterEqual(len(row), 100)
                check_refused(self, TooMuch, tree_of, ALL_KINDS, row)
                check_refused(self, TooMuch, tree_of, [], row)

    def test_too_many_words_whatever_they_are(self):
        for many in (100, 101, 250):
            for word in ("a", "(", ")", ";", "tell", "+", "!", "-"):
                check_refused(self, TooMuch, tree_of, ALL_KINDS, [word] * many)
                check_refused(self, TooMuch, tree_of, [], [word] * many)
        check_refused(self, TooMuch, tree_of, [], ["tell", "left", "5", "+"] * 25)

    def test_a_table_of_many_tellings(self):
        table = table_of(*[told("left", at % 30 + 1, f"w{at}") for at in range(64)])
        self.check_read(table, "a w63 b w0 c w40 d", ("between", "w0", (
            "between", "w63", "a", "b"), ("between", "w40", "c", "d")))
        self.check_read(table, "a w5 b w35 c", ("between", "w35", ("between", "w5", "a", "b"), "c"))


class BesideTheDocument(TreeOf):
    """Many rows, each beside a trial of all trees."""

    def check_all(self, table, words, longest):
        found = 0
        for length in range(longest + 1):
            for row in itertools.product(words, repeat=length):
                found += self.check_slowly(table, list(row))
        self.assertGreater(found, 0)

    def test_rows_without_brackets(self):
        for kinds in itertools.product(("left", "right", "none"), repeat=2):
            for powers in ((5, 6, 7, 8), (8, 7, 6, 5), (6, 8, 5, 7)):
                table = table_of(told("before", powers[0], "p"), told(kinds[0], powers[1], "x"),
                                 told("behind", powers[2], "q"), told(kinds[1], powers[3], "y"))
                self.check_all(table, "apxqy", 5)

    def test_rows_with_brackets(self):
        for powers in itertools.permutations((5, 6, 7)):
            for kind in ("left", "right", "none"):
                table = table_of(told("before", powers[0], "p"), told(kind, powers[1], "x"),
                                 told("behind", powers[2], "q"))
                self.check_all(table, "apxq()", 5)

    def test_rows_of_one_operator_with_brackets(self):
        for kind in ("left", "right", "none", "before", "behind"):
            self.check_all(table_of(told(kind, 5, "x")), "ax()", 7)

    def test_rows_of_one_word_in_both_roles(self):
        for kind in ("left", "right", "none", "behind"):
            for powers in ((5, 6), (6, 5)):
                table = table_of(told("before", powers[0], "x"), told(kind, powers[1], "x"))
                self.check_all(table, "ax()", 7)

    def test_rows_with_words_that_are_in_no_tree(self):
        self.check_all(table_of(told("left", 5, "x")), ["a", "x", ";", "tell", "("], 4)

    def test_longer_rows(self):
        chance = random.Random(10)
        found = 0
        for _ in range(1500):
            row = self.some_row(chance, 3)
            if len(row) > 12:
                continue
            found += self.check_slowly(ALL_KINDS, row)
            row[chance.randrange(len(row))] = chance.choice("a+-*^!~?()")
            found += self.check_slowly(ALL_KINDS, row)
        self.assertGreater(found, 100)

    def some_row(self, chance, depth):
        """The row of some tree, now and then with brackets."""
        if depth == 0:
            row = ["a"]
        else:
            _, kind, _, word = chance.choice(ALL_KINDS)
            row = self.some_row(chance, chance.randrange(depth))
            if kind == "before":
                row = [word] + row
            elif kind == "behind":
                row = row + [word]
            else:
                row = row + [word] + self.some_row(chance, chance.randrange(depth))
        return bracketed(row, chance.choice((0, 0, 1, 1, 2)))

    def test_rows_of_trees_are_read_to_them(self):
        trees = ["a"]
        for _ in range(2):
            trees = ["a"] + [
                (form, telling[3], *operands)
                for telling in ALL_KINDS
                for form in ("before", "behind", "between")
                if told_as(ALL_KINDS, form, telling[3]) == telling
                for operands in itertools.product(trees, repeat=2 if form == "between" else 1)]
        self.assertGreater(len(trees), 900)
        for tree in trees:
            self.assertEqual(tree_of(ALL_KINDS, shown_slowly(ALL_KINDS, tree)), tree)


class AskersOwn(TreeOf):

    def test_a_row_that_is_changed_later_changes_no_tree(self):
        table = table_of(told("left", 5, "+"))
        row = ["a", "+", "b"]
        tree = tree_of(table, row)
        row[0] = "c"
        row.clear()
        table.clear()
        self.assertEqual(tree, ("between", "+", "a", "b"))

    def test_a_table_that_is_changed_is_read_anew(self):
        table = table_of(told("left", 5, "+"), told("left", 6, "*"))
        row = ["a", "+", "b", "*", "c"]
        self.check_read(table, row, ("between", "+", "a", ("between", "*", "b", "c")))
        table[1] = told("left", 4, "*")
        self.check_read(table, row, ("between", "*", ("between", "+", "a", "b"), "c"))
        table.clear()
        self.check_no_part(table, row)

    def test_a_refusal_changes_nothing_for_later_rows(self):
        self.check_read(ALL_KINDS, "a + b", ("between", "+", "a", "b"))
        for row in ("( ( a", "a +", "- - -", "a b"):
            self.check_no_part(ALL_KINDS, row)
            self.check_read(ALL_KINDS, "a + b", ("between", "+", "a", "b"))
        check_refused(self, TooMuch, tree_of, ALL_KINDS, ["a"] * 100)
        self.check_read(ALL_KINDS, "a", "a")


if __name__ == "__main__":
    unittest.main()
