"""Points 11 and 12: row_of."""

import copy
import itertools
import unittest

from precread.errors import NoTree, TooMuch
from precread.reading import tree_of
from precread.showing import row_of
from tests.helper import (ALL_KINDS, NO_TREES, TREES, check_refused, check_same, doubled,
                          put_below, shown_slowly, table_of, told, told_as)

PLUS = ("between", "+", "a", "b")
TIMES = ("between", "*", "a", "b")
POWER = ("between", "^", "a", "b")
EQUAL = ("between", "=", "a", "b")
MINUS = ("before", "-", "a")
FACTORIAL = ("behind", "!", "a")


def chained(form, word, times, tree="a"):
    """A tree with so many operators of one operand over the given one."""
    for _ in range(times):
        tree = (form, word, tree)
    return tree


class RowOf(unittest.TestCase):

    def check_row(self, table, tree, wanted):
        if isinstance(wanted, str):
            wanted = wanted.split()
        before = copy.deepcopy((table, tree))
        for _ in range(2):
            found = row_of(table, tree)
            check_same(self, found, wanted)
        check_same(self, tree_of(table, found), tree)
        self.assertEqual((table, tree), before)

    def test_names(self):
        for name in ("a", "abcdefgh", "left", "Tell", "5"):
            self.check_row(ALL_KINDS, name, [name])
            self.check_row([], name, [name])

    def test_trees_of_one_operator(self):
        for tree in TREES:
            if tree[0] == "before":
                self.check_row(ALL_KINDS, tree, [tree[1], "a"])
            elif tree[0] == "behind":
                self.check_row(ALL_KINDS, tree, ["a", tree[1]])
            else:
                self.check_row(ALL_KINDS, tree, ["a", tree[1], "b"])

    def test_the_operand_of_before(self):
        self.check_row(ALL_KINDS, ("before", "-", PLUS), "- ( a + b )")
        self.check_row(ALL_KINDS, ("before", "-", MINUS), "- - a")
        self.check_row(ALL_KINDS, ("before", "-", TIMES), "- a * b")
        self.check_row(ALL_KINDS, ("before", "~", FACTORIAL), "~ ( a ! )")
        self.check_row(ALL_KINDS, ("before", "-", FACTORIAL), "- a !")

    def test_the_operand_of_behind(self):
        self.check_row(ALL_KINDS, ("behind", "!", POWER), "( a ^ b ) !")
        self.check_row(ALL_KINDS, ("behind", "!", FACTORIAL), "a ! !")
        self.check_row(ALL_KINDS, ("behind", "!", ("before", "~", "a")), "~ a !")
        self.check_row(ALL_KINDS, ("behind", "!", MINUS), "( - a ) !")
        self.check_row(ALL_KINDS, ("behind", "?", PLUS), "a + b ?")

    def test_the_operands_of_left(self):
        self.check_row(ALL_KINDS, ("between", "+", PLUS, "c"), "a + b + c")
        self.check_row(ALL_KINDS, ("between", "-", PLUS, "c"), "a + b - c")
        self.check_row(ALL_KINDS, ("between", "+", "c", PLUS), "c + ( a + b )")
        self.check_row(ALL_KINDS, ("between", "-", "c", PLUS), "c - ( a + b )")
        self.check_row(ALL_KINDS, ("between", "+", TIMES, TIMES), "a * b + a * b")
        self.check_row(ALL_KINDS, ("between", "+", EQUAL, EQUAL), "( a = b ) + ( a = b )")
        self.check_row(ALL_KINDS, ("between", "*", MINUS, MINUS), "( - a ) * ( - a )")
        self.check_row(ALL_KINDS, ("between", "+", MINUS, MINUS), "- a + - a")

    def test_the_operands_of_right(self):
        self.check_row(ALL_KINDS, ("between", "^", POWER, "c"), "( a ^ b ) ^ c")
        self.check_row(ALL_KINDS, ("between", "**", POWER, "c"), "( a ^ b ) ** c")
        self.check_row(ALL_KINDS, ("between", "^", "c", POWER), "c ^ a ^ b")
        self.check_row(ALL_KINDS, ("between", "**", "c", POWER), "c ** a ^ b")
        self.check_row(ALL_KINDS, ("between", "^", TIMES, TIMES), "( a * b ) ^ ( a * b )")
        self.check_row(ALL_KINDS, ("between", "^", FACTORIAL, FACTORIAL), "a ! ^ a !")

    def test_the_operands_of_none(self):
        self.check_row(ALL_KINDS, ("between", "=", EQUAL, "c"), "( a = b ) = c")
        self.check_row(ALL_KINDS, ("between", "=", "c", EQUAL), "c = ( a = b )")
        self.check_row(ALL_KINDS, ("between", "=", PLUS, PLUS), "a + b = a + b")
        ask = ("behind", "?", "a")
        self.check_row(ALL_KINDS, ("between", "=", ask, ask), "( a ? ) = ( a ? )")

    def test_each_kind_each_place_and_each_strength(self):
        lower = [("between", "x", "a", "b"), ("before", "x", "a"), ("behind", "x", "a")]
        for kind in ("left", "right", "none", "before", "behind"):
            form = kind if kind in ("before", "behind") else "between"
            for inner, power in itertools.product(
                    ("left", "right", "none", "before", "behind"), (4, 5, 6)):
                if power == 5 and inner != kind:
                    continue
                table = table_of(told(kind, 5, "y"), told(inner, power, "x"))
                tree = [tree for tree in lower if told_as(table, tree[0], "x") is not None][0]
                for place in range(2 if form == "between" else 1):
                    operands = ["c", "d"] if form == "between" else ["c"]
                    operands[place] = tree
                    whole = (form, "y", *operands)
                    self.check_row(table, whole, shown_slowly(table, whole))

    def test_brackets_only_where_they_are_due(self):
        self.check_row(ALL_KINDS, ("between", "+", "a", ("between", "*", (
            "between", "-", "b", "c"), ("between", "^", ("between", "**", "d", "e"), "f"))),
            "a + ( b - c ) * ( d ** e ) ^ f")
        self.check_row(ALL_KINDS, ("before", "-", ("before", "~", ("before", "-", (
            "behind", "!", ("behind", "?", "a"))))), "- ~ ( - ( a ? ) ! )")

    def test_the_same_word_in_both_roles(self):
        self.check_row(ALL_KINDS, ("between", "-", MINUS, MINUS), "- a - - a")
        self.check_row(ALL_KINDS, ("before", "?", ("behind", "?", "a")), "? a ?")
        self.check_row(ALL_KINDS, ("behind", "?", ("before", "?", "a")), "( ? a ) ?")
        self.check_row(ALL_KINDS, ("before", "-", ("between", "-", "a", "b")), "- ( a - b )")

    def test_trees_of_two_and_three_operators(self):
        trees = [tree for lower in TREES for tree in put_below(lower)]
        trees += [("between", word, one, other) for one in TREES for other in TREES
                  for word in ("=", "+", "*", "^")]
        trees += [tree for lower in trees[:66] for tree in put_below(lower)]
        for tree in trees:
            self.check_row(ALL_KINDS, tree, shown_slowly(ALL_KINDS, tree))

    def test_the_same_tree_by_another_table(self):
        tree = ("between", "+", PLUS, PLUS)
        self.check_row(table_of(told("left", 5, "+")), tree, "a + b + ( a + b )")
        self.check_row(table_of(told("right", 5, "+")), tree, "( a + b ) + a + b")
        self.check_row(table_of(told("none", 5, "+")), tree, "( a + b ) + ( a + b )")

    def test_what_is_shown_is_the_askers_own(self):
        table = table_of(told("left", 5, "+"))
        first = row_of(table, PLUS)
        second = row_of(table, PLUS)
        first[0] = "x"
        first.append("y")
        table.clear()
        self.assertEqual(second, ["a", "+", "b"])
        table.append(told("left", 5, "+"))
        self.check_row(table, PLUS, "a + b")


class NoTrees(unittest.TestCase):

    def test_what_is_no_tree(self):
        for thing in NO_TREES:
            check_refused(self, NoTree, row_of, ALL_KINDS, thing)

    def test_what_is_no_tree_below_the_top(self):
        for thing in NO_TREES:
            for tree in put_below(thing):
                check_refused(self, NoTree, row_of, ALL_KINDS, tree)
            for tree in put_below(("between", "=", thing, thing)):
                check_refused(self, NoTree, row_of, ALL_KINDS, tree)

    def test_trees_of_another_table(self):
        for tree in TREES:
            check_refused(self, NoTree, row_of, [], tree)
        check_refused(self, NoTree, row_of, table_of(told("left", 5, "a")), "a")

    def test_a_row_is_no_tree(self):
        for thing in (["a", "+", "b"], ["a"], "a + b", ("a", "+", "b")):
            check_refused(self, NoTree, row_of, ALL_KINDS, thing)


class Sizes(unittest.TestCase):

    def check_whole(self, tree, many):
        """The tree is shown, in so many words, and read again."""
        before = copy.deepcopy(tree)
        row = row_of(ALL_KINDS, tree)
        self.assertEqual(row, shown_slowly(ALL_KINDS, tree))
        self.assertEqual(len(row), many)
        self.assertEqual(tree_of(ALL_KINDS, row), tree)
        self.assertEqual(tree, before)

    def check_too_much(self, tree, many):
        self.assertEqual(len(shown_slowly(ALL_KINDS, tree)), many)
        check_refused(self, TooMuch, row_of, ALL_KINDS, tree)

    def test_operators_of_one_operand(self):
        for form, word in (("before", "-"), ("behind", "!")):
            self.check_whole(chained(form, word, 97), 98)
            self.check_whole(chained(form, word, 98), 99)
            self.check_too_much(chained(form, word, 99), 100)
            self.check_too_much(chained(form, word, 100), 101)
            self.check_too_much(chained(form, word, 139), 140)

    def test_operators_of_two_operands(self):
        tree = "a"
        for _ in range(49):
            tree = ("between", "+", tree, "b")
        self.check_whole(tree, 99)
        self.check_too_much(("between", "+", tree, "b"), 101)
        self.check_too_much(("before", "~", tree), 102)
        self.check_too_much(("behind", "?", tree), 100)

    def test_brackets_count(self):
        tree = "b"
        for _ in range(24):
            tree = ("between", "+", "a", tree)
        self.check_whole(tree, 95)
        self.check_whole(("between", "+", "a", tree), 99)
        self.check_too_much(("before", "?", ("between", "+", "a", tree)), 100)
        self.check_too_much(("between", "+", "a", ("between", "+", "a", tree)), 103)
        tree = ("between", "^", "a", "b")
        for _ in range(24):
            tree = ("between", "^", tree, "b")
        self.check_whole(tree, 99)
        self.check_too_much(("between", "^", tree, "b"), 103)

    def test_one_closing_bracket_too_much(self):
        tree = ("between", "*", chained("before", "-", 93), "b")
        self.check_whole(tree, 98)
        tree = ("between", "*", chained("before", "-", 94), "b")
        self.check_whole(tree, 99)
        tree = ("between", "*", "b", chained("before", "-", 94))
        self.check_whole(tree, 99)
        tree = ("between", "*", "b", chained("before", "-", 95))
        self.check_too_much(tree, 100)

    def test_no_tree_comes_before_too_much(self):
        for wrong in ("-", "tell", "", None, 5, ["a"], ("before", "!", "a")):
            for times in (97, 98, 99, 120, 138):
                check_refused(self, NoTree, row_of, ALL_KINDS,
                              chained("before", "-", times, wrong))
            wide = "a"
            for _ in range(60):
                wide = ("between", "+", wide, "b")
            check_refused(self, NoTree, row_of, ALL_KINDS, ("between", "+", wide, wrong))
            check_refused(self, NoTree, row_of, ALL_KINDS, ("between", "+", wrong, wide))

    def test_a_tree_in_which_one_operand_stands_in_many_places(self):
        # No check_refused here: such a tree is too large to be copied.
        self.check_whole(doubled("a", 4), 31 + 2 * 7)
        for times in (7, 20, 139):
            with self.assertRaises(TooMuch):
                row_of(ALL_KINDS, doubled("a", times))
            with self.assertRaises(NoTree):
                row_of(ALL_KINDS, doubled("-", times))


if __name__ == "__main__":
    unittest.main()
