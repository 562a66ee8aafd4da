"""Points 6 to 9: belongs, strength and enough."""

import copy
import unittest

from precread.trees import belongs, enough, strength
from tests.helper import (ALL_KINDS, NO_NAMES, NO_TREES, OTHER_THINGS, TREES, WRONG_TUPLES, doubled,
                          put_below, table_of, told)


class Belongs(unittest.TestCase):

    def check_belongs(self, table, thing, wanted):
        before = copy.deepcopy((table, thing))
        for _ in range(2):
            found = belongs(table, thing)
            self.assertIs(found, wanted, thing)
        self.assertEqual((table, thing), before)

    def test_names(self):
        for name in ("a", "b", "abcdefgh", "left", "before", "between", "12", "Tell", "tells",
                     "--", "+-", "~~", "[a]", "a.b"):
            self.check_belongs(ALL_KINDS, name, True)
            self.check_belongs([], name, True)

    def test_texts_that_are_no_names(self):
        for text in NO_NAMES:
            self.check_belongs(ALL_KINDS, text, False)

    def test_a_word_is_a_name_where_it_is_not_told(self):
        for kind in ("left", "right", "none", "before", "behind"):
            table = table_of(told(kind, 5, "a"))
            self.check_belongs([], "a", True)
            self.check_belongs(table, "a", False)
            self.check_belongs(table, "b", True)

    def test_a_word_that_is_told_in_both_roles(self):
        table = table_of(told("before", 5, "a"), told("left", 6, "a"))
        self.check_belongs(table, "a", False)
        self.check_belongs(table, ("before", "a", "b"), True)
        self.check_belongs(table, ("between", "a", "b", "c"), True)
        self.check_belongs(table, ("behind", "a", "b"), False)
        self.check_belongs(table, ("before", "a", "a"), False)

    def test_each_form_with_each_kind(self):
        goes = {"before": ["before"], "behind": ["behind"], "between": ["left", "right", "none"]}
        for kind in ("left", "right", "none", "before", "behind"):
            table = table_of(told(kind, 5, "+"))
            for form, kinds in goes.items():
                for operands in ((), ("a",), ("a", "b"), ("a", "b", "c")):
                    due = 2 if form == "between" else 1
                    self.check_belongs(table, (form, "+") + operands,
                                       kind in kinds and len(operands) == due)

    def test_trees_of_one_operator(self):
        for tree in TREES:
            self.check_belongs(ALL_KINDS, tree, True)
            self.check_belongs([], tree, False)

    def test_trees_of_several_operators(self):
        for tree in TREES:
            for higher in put_below(tree):
                self.check_belongs(ALL_KINDS, higher, True)
                for top in put_below(higher):
                    self.check_belongs(ALL_KINDS, top, True)

    def test_the_strengths_of_operands_do_not_matter(self):
        for tree in TREES:
            for other in TREES:
                self.check_belongs(ALL_KINDS, ("between", "**", tree, other), True)

    def test_what_is_no_tree(self):
        for thing in NO_TREES:
            self.check_belongs(ALL_KINDS, thing, False)

    def test_what_is_no_tree_one_operator_below_the_top(self):
        for thing in NO_TREES:
            for tree in put_below(thing):
                self.check_belongs(ALL_KINDS, tree, False)

    def test_what_is_no_tree_several_operators_below_the_top(self):
        for thing in NO_TREES:
            for tree in put_below(thing):
                for higher in put_below(tree):
                    self.check_belongs(ALL_KINDS, higher, False)
            tree = thing
            for at in range(20):
                tree = put_below(tree)[at % 6]
            self.check_belongs(ALL_KINDS, tree, False)

    def test_what_is_no_tree_beside_the_same_tree_that_is_one(self):
        for thing in NO_TREES:
            self.check_belongs(ALL_KINDS, ("between", "+", ("before", "-", "a"),
                                           ("before", "-", thing)), False)
            self.check_belongs(ALL_KINDS, ("between", "+", ("before", "-", thing),
                                           ("before", "-", "a")), False)

    def test_lists_in_place_of_tuples(self):
        for tree in TREES:
            self.check_belongs(ALL_KINDS, list(tree), False)
            for higher in put_below(list(tree)):
                self.check_belongs(ALL_KINDS, higher, False)

    def test_trees_of_the_empty_table(self):
        self.check_belongs([], "+", True)
        self.check_belongs([], "tell", False)
        for thing in WRONG_TUPLES + OTHER_THINGS + TREES:
            self.check_belongs([], thing, False)

    def test_trees_that_are_deep(self):
        for base, wanted in (("a", True), ("-", False), (None, False), (["a"], False)):
            for place in range(6):
                tree = base
                for _ in range(139):
                    tree = put_below(tree)[place]
                self.check_belongs(ALL_KINDS, tree, wanted)
                for _ in range(20):
                    tree = put_below(tree)[place]
                self.check_belongs(ALL_KINDS, tree, wanted)

    def test_a_tree_in_which_one_operand_stands_in_many_places(self):
        # No check_belongs here: such a tree is too large to be copied or shown.
        for base, wanted in (("a", True), (("before", "-", "a"), True), ("tell", False),
                             (("before", "+", "a"), False), (None, False), (["a"], False)):
            tree = doubled(base, 138)
            self.assertTrue(belongs(ALL_KINDS, tree) is wanted, base)
            one, other = "a", base
            for _ in range(138):
                one, other = ("between", "*", one, other), one
            self.assertTrue(belongs(ALL_KINDS, one) is wanted, base)

    def test_a_tree_that_is_wide(self):
        def wide(depth, at, wrong):
            if depth == 0:
                return "+" if at == wrong else f"n{at}"
            return ("between", "+", wide(depth - 1, 2 * at, wrong),
                    wide(depth - 1, 2 * at + 1, wrong))
        self.check_belongs(ALL_KINDS, wide(10, 0, None), True)
        for wrong in (0, 1, 63, 64, 65, 500, 1022, 1023):
            self.check_belongs(ALL_KINDS, wide(10, 0, wrong), False)

    def test_a_table_of_many_tellings(self):
        table = table_of(*[told("left", 5, f"w{at}") for at in range(64)])
        for at in (0, 31, 63):
            self.check_belongs(table, ("between", f"w{at}", "a", "b"), True)
            self.check_belongs(table, f"w{at}", False)
        self.check_belongs(table, "w64", True)

    def test_what_is_told_later_does_not_change_an_answer(self):
        table = table_of(told("left", 5, "+"))
        tree = ("between", "+", "a", "b")
        self.check_belongs(table, tree, True)
        table.append(told("before", 6, "a"))
        self.check_belongs(table, tree, False)
        table.clear()
        self.check_belongs(table, tree, False)
        table.append(told("none", 1, "+"))
        self.check_belongs(table, tree, True)


class Strength(unittest.TestCase):

    def check_strength(self, table, tree, wanted):
        before = copy.deepcopy((table, tree))
        for _ in range(2):
            found = strength(table, tree)
            self.assertIs(type(found), int)
            self.assertEqual(found, wanted, tree)
        self.assertEqual((table, tree), before)

    def test_a_name(self):
        for table in ([], ALL_KINDS):
            for name in ("a", "abcdefgh", "before", "5"):
                self.check_strength(table, name, 31)

    def test_each_operator(self):
        powers = [3, 5, 5, 7, 9, 9, 6, 13, 1, 11, 2]
        for tree, power in zip(TREES, powers, strict=True):
            self.check_strength(ALL_KINDS, tree, power)

    def test_only_the_top_matters(self):
        powers = [6, 11, 5, 5, 9, 3]
        for tree in TREES:
            for higher, power in zip(put_below(tree), powers, strict=True):
                self.check_strength(ALL_KINDS, higher, power)

    def test_a_word_that_is_told_in_both_roles(self):
        for kind in ("left", "right", "none"):
            for tellings in ((told("before", 4, "x"), told(kind, 8, "x")),
                             (told(kind, 8, "x"), told("before", 4, "x"))):
                table = table_of(*tellings)
                self.check_strength(table, ("before", "x", "a"), 4)
                self.check_strength(table, ("between", "x", "a", "b"), 8)
        table = table_of(told("behind", 4, "x"), told("before", 8, "x"))
        self.check_strength(table, ("before", "x", "a"), 8)
        self.check_strength(table, ("behind", "x", "a"), 4)

    def test_each_strength(self):
        for power in range(1, 31):
            self.check_strength(table_of(told("left", power, "+")),
                                ("between", "+", "a", "b"), power)
            self.check_strength(table_of(told("before", power, "+")), ("before", "+", "a"), power)
            self.check_strength(table_of(told("behind", power, "+")), ("behind", "+", "a"), power)

    def test_the_strength_is_that_of_the_table_that_is_handed_in(self):
        tree = ("between", "+", "a", "b")
        table = table_of(told("left", 5, "+"))
        self.check_strength(table, tree, 5)
        self.check_strength(table_of(told("right", 6, "+")), tree, 6)
        self.check_strength(table, tree, 5)

    def test_a_deep_tree(self):
        tree = "a"
        for at in range(139):
            tree = put_below(tree)[at % 6]
        self.check_strength(ALL_KINDS, tree, 6)


class Enough(unittest.TestCase):

    def check_enough(self, kind, place, below, same, above):
        for own in range(1, 31):
            telling = told(kind, own, "+")
            for power in range(1, 32):
                wanted = below if power < own else same if power == own else above
                self.assertIs(enough(telling, place, power), wanted, (kind, place, own, power))
            self.assertEqual(telling, ("tell", kind, own, "+"))

    def test_before(self):
        self.check_enough("before", 0, False, True, True)

    def test_behind(self):
        self.check_enough("behind", 0, False, True, True)

    def test_left(self):
        self.check_enough("left", 0, False, True, True)
        self.check_enough("left", 1, False, False, True)

    def test_right(self):
        self.check_enough("right", 0, False, False, True)
        self.check_enough("right", 1, False, True, True)

    def test_none(self):
        self.check_enough("none", 0, False, False, True)
        self.check_enough("none", 1, False, False, True)

    def test_a_name_is_always_strong_enough(self):
        for kind in ("left", "right", "none", "before", "behind"):
            for place in ((0,) if kind in ("before", "behind") else (0, 1)):
                self.assertIs(enough(told(kind, 30, "+"), place, 31), True)
                self.assertIs(enough(told(kind, 30, "+"), place, 1), False)


if __name__ == "__main__":
    unittest.main()
