"""Points 13 to 17, and point 1: read, written and Reader."""

import copy
import itertools
import unittest

from precread.errors import Clash, NoPart, NoTelling, NoTree, NoWord, TooMuch
from precread.reading import tree_of
from precread.texts import Reader, read, written
from tests.helper import (ALL_KINDS, NO_TREES, TREES, check_refused, check_same, doubled,
                          put_below, shown_slowly, told)

SUM = ("between", "+", "a", "b")

# Words of a part that begins with tell, but is no telling by any table.
NO_TELLINGS = [
    # Other words, less or more.
    "tell", "tell left", "tell left 5", "tell left 5 + x", "tell left 5 + +", "tell left 5 x y z",
    "tell tell left 5 +", "tell left 5 + tell", "tell left 5 ( + )", "tell ( left 5 + )",
    # A kind that is none.
    "tell Left 5 +", "tell between 5 +", "tell lefts 5 +", "tell 5 left +", "tell + 5 left",
    "tell tell 5 +", "tell ( 5 +", "tell both 5 +",
    # A strength that is none, or that is not written by one or two figures.
    "tell left 0 +", "tell left 00 +", "tell left 05 +", "tell left 01 +", "tell left 31 +",
    "tell left 99 +", "tell left 1x +", "tell left x1 +", "tell left x +", "tell left -5 +",
    "tell left +5 +", "tell left 005 +", "tell left 010 +", "tell left 100 +", "tell left 5. +",
    "tell left 1_0 +", "tell left five +", "tell left ( +", "tell left tell +", "tell left - +",
    # A word that is none.
    "tell left 5 tell", "tell left 5 (", "tell left 5 )", "tell before 5 tell"]


def text_of(*rows):
    """The text of parts that are written out already."""
    return "".join(f"{row} ;\n" for row in rows)


class Read(unittest.TestCase):

    def check_read(self, text, parts):
        for _ in range(2):
            found = read(text)
            self.assertIs(type(found), list)
            check_same(self, found, parts)

    def check_refused(self, refusal, *rows):
        check_refused(self, refusal, read, text_of(*rows))

    def test_texts_without_a_part(self):
        for text in ("", " ", "\n", "  \n\n  \n "):
            self.check_read(text, [])

    def test_a_part_that_is_a_name(self):
        self.check_read("a;", ["a"])
        self.check_read(" a\n;\n", ["a"])
        self.check_read("a;b;a;", ["a", "b", "a"])
        self.check_read("((a));", ["a"])

    def test_a_telling_of_each_kind(self):
        for kind in ("left", "right", "none", "before", "behind"):
            self.check_read(f"tell {kind} 5 +;", [("tell", kind, 5, "+")])

    def test_each_strength(self):
        for strength in range(1, 31):
            self.check_read(f"tell left {strength} +;", [("tell", "left", strength, "+")])

    def test_parts_are_read_by_the_tellings_ahead_of_them(self):
        self.check_read("tell left 5 +; a + b; tell left 7 *; a + b * c; (a + b) * c;", [
            told("left", 5, "+"), SUM, told("left", 7, "*"),
            ("between", "+", "a", ("between", "*", "b", "c")), ("between", "*", SUM, "c")])

    def test_a_word_is_a_name_ahead_of_its_telling(self):
        self.check_read("+; tell left 5 +; a + b;", ["+", told("left", 5, "+"), SUM])
        self.check_read("tell before 7 -; - +; tell left 5 +; - a + b;", [
            told("before", 7, "-"), ("before", "-", "+"), told("left", 5, "+"),
            ("between", "+", ("before", "-", "a"), "b")])
        self.check_refused(NoPart, "a + b", "tell left 5 +")
        self.check_refused(NoPart, "tell left 5 +", "+")
        self.check_refused(NoPart, "tell left 5 +", "a + b", "+ + a")

    def test_a_word_that_gets_its_second_role(self):
        self.check_read("tell left 5 -; a - b; tell before 7 -; - a - - b;", [
            told("left", 5, "-"), ("between", "-", "a", "b"), told("before", 7, "-"),
            ("between", "-", ("before", "-", "a"), ("before", "-", "b"))])
        self.check_refused(NoPart, "tell left 5 -", "- a")

    def test_kinds_are_plain_words_too(self):
        self.check_read("left; tell left 5 left; a left b; before left before;", [
            "left", told("left", 5, "left"), ("between", "left", "a", "b"),
            ("between", "left", "before", "before")])

    def test_only_the_first_word_makes_a_telling(self):
        self.check_refused(NoPart, "a tell")
        self.check_refused(NoPart, "( tell left 5 + )")
        self.check_refused(NoPart, "left 5 +")
        self.check_refused(NoPart, "Tell left 5 +")

    def test_what_is_no_telling(self):
        for row in NO_TELLINGS:
            self.check_refused(NoTelling, row)
            self.check_refused(NoTelling, "tell left 7 *", "a * b", row)
            self.check_refused(NoTelling, row, "a b", "tell", "a")

    def test_a_telling_of_very_many_words(self):
        for many in (99, 100, 101, 200):
            self.check_refused(NoTelling, "tell " * many)
            self.check_refused(NoTelling, "tell left 5 + " + "x " * many)

    def test_a_telling_that_clashes(self):
        for row in ("tell right 5 *", "tell left 6 +", "tell left 5 +", "tell behind 6 +",
                    "tell before 5 *", "tell before 5 +"):
            self.check_refused(Clash, "tell left 5 +", row)
            self.check_refused(Clash, "tell left 5 +", "a + b", "c", row, "a b")
        self.check_read("tell left 5 +; tell before 6 +; tell left 5 *;", [
            told("left", 5, "+"), told("before", 6, "+"), told("left", 5, "*")])

    def test_no_telling_comes_before_clash(self):
        for row in ("tell right 5 tell", "tell Left 5 +", "tell left 5 + +", "tell right 05 +"):
            self.check_refused(NoTelling, "tell left 5 +", row)

    def test_an_empty_part(self):
        self.check_refused(NoPart, "")
        for text in (";", ";;", " ; ", "a;;", "a;;b;", ";a;", "tell left 5 +;;"):
            check_refused(self, NoPart, read, text)

    def test_parts_without_a_tree(self):
        for row in ("a b", "( a", "a )", "( )", "a + b", "- a", "a !"):
            self.check_refused(NoPart, row)
            self.check_refused(NoPart, "tell left 6 *", "a * b", row, "c")

    def test_parts_of_too_many_words(self):
        for row in ("a " * 100, "( " * 50 + "a" + " )" * 50, "a " + "tell " * 99):
            self.check_refused(TooMuch, row)
            self.check_refused(TooMuch, "tell left 6 *", row, "a b")
        self.check_read("(" * 49 + "a" + ")" * 49 + ";", ["a"])
        self.check_refused(NoPart, "a " * 99)

    def test_many_parts(self):
        text = "tell left 5 +;" + "a + b; c;" * 500
        self.check_read(text, [told("left", 5, "+")] + [SUM, "c"] * 500)

    def test_very_many_tellings(self):
        rows = [f"tell left {at % 30 + 1} w{at}" for at in range(64)]
        tellings = [("tell", "left", at % 30 + 1, f"w{at}") for at in range(64)]
        self.check_read(text_of(*rows, "a w63 b"), tellings + [("between", "w63", "a", "b")])

    def test_words_that_cannot_be_cut_come_first(self):
        for wrong in ("abcdefghi", "a\tb", "\t", "(abcdefghi)"):
            for text in (wrong, f"{wrong};", f"a; {wrong}", f"a; {wrong};", f"a b; {wrong};",
                         f"a b; {wrong}", f"tell; {wrong}", f"; {wrong}", f"{wrong}; a b; tell;",
                         "a " * 100 + f"; {wrong}", f"tell left 5 {wrong};",
                         f"tell left 5 +; tell left 6 +; {wrong}"):
                check_refused(self, NoWord, read, text)

    def test_the_first_part_that_is_refused_refuses_the_text(self):
        wrong = [("a b", NoPart), ("", NoPart), ("tell left 0 x", NoTelling), ("tell", NoTelling),
                 ("tell right 5 x", Clash), ("tell left 7 +", Clash), ("a " * 100, TooMuch)]
        for one, other in itertools.product(wrong, repeat=2):
            for good in ([], ["a + b"], ["tell left 9 y", "a y b"]):
                self.check_refused(one[1], "tell left 5 +", *good, one[0], other[0])
                self.check_refused(one[1], "tell left 5 +", *good, one[0], *good, other[0])

    def test_words_behind_the_last_semicolon(self):
        for rest in ("a", "a + b", "(a)", "tell left 7 *", "tell", "tell left 7", "a b", "(", ")",
                     "tell left 5 +", "tell right 5 *", "a " * 99, "a " * 100, "tell " * 200,
                     "tell left 0 x", "+"):
            check_refused(self, NoPart, read, rest)
            check_refused(self, NoPart, read, "tell left 5 +; a + b; " + rest)
            check_refused(self, NoPart, read, "tell left 5 +;\na + b;\n" + rest + "\n")

    def test_a_part_that_is_refused_ahead_of_words_left_over(self):
        for row, refusal in (("tell", NoTelling), ("tell left 5 +", Clash), ("a " * 100, TooMuch),
                             ("a b", NoPart)):
            for rest in ("a", "a b", "tell", "tell left 0 x"):
                check_refused(self, refusal, read, text_of("tell left 5 +", row) + rest)

    def test_two_texts_are_two(self):
        self.check_read("tell left 5 +; a + b;", [told("left", 5, "+"), SUM])
        self.check_refused(NoPart, "a + b")
        self.check_read("tell right 5 +; a + b;", [told("right", 5, "+"), SUM])
        self.check_read("+;", ["+"])

    def test_a_list_that_was_read_is_the_askers_own(self):
        text = "tell left 5 +; a + b;"
        first = read(text)
        second = read(text)
        first.clear()
        self.assertEqual(second, [told("left", 5, "+"), SUM])
        second.append("x")
        self.check_read(text, [told("left", 5, "+"), SUM])
        read("").append("x")
        self.check_read("", [])


class Written(unittest.TestCase):

    def check_written(self, parts, text):
        before = copy.deepcopy(parts)
        for _ in range(2):
            found = written(parts)
            self.assertIs(type(found), str)
            self.assertEqual(found, text)
        check_same(self, parts, before)
        check_same(self, read(text), parts)

    def check_refused(self, refusal, *parts):
        check_refused(self, refusal, written, list(parts))

    def test_the_empty_list(self):
        self.check_written([], "")

    def test_names(self):
        self.check_written(["a"], "a ;\n")
        self.check_written(["a", "b", "a"], "a ;\nb ;\na ;\n")
        self.check_written(["left"], "left ;\n")

    def test_tellings(self):
        for kind in ("left", "right", "none", "before", "behind"):
            for strength in (1, 5, 9, 10, 30):
                self.check_written([told(kind, strength, "+")], f"tell {kind} {strength} + ;\n")
        self.check_written(ALL_KINDS, text_of(
            "tell none 3 =", "tell left 5 +", "tell left 5 -", "tell before 6 -", "tell left 7 *",
            "tell right 9 ^", "tell right 9 **", "tell behind 11 !", "tell before 13 ~",
            "tell behind 2 ?", "tell before 1 ?"))

    def test_trees_by_the_tellings_ahead_of_them(self):
        self.check_written(
            ["+", told("left", 5, "+"), SUM, told("left", 7, "*"), ("between", "*", SUM, SUM),
             ("between", "+", SUM, SUM)],
            text_of("+", "tell left 5 +", "a + b", "tell left 7 *", "( a + b ) * ( a + b )",
                    "a + b + ( a + b )"))
        for tree in [tree for lower in TREES for tree in put_below(lower)]:
            text = written(ALL_KINDS) + " ".join(shown_slowly(ALL_KINDS, tree)) + " ;\n"
            self.check_written(ALL_KINDS + [tree], text)

    def test_a_tree_ahead_of_its_telling(self):
        self.check_refused(NoTree, SUM, told("left", 5, "+"))
        self.check_refused(NoTree, told("left", 5, "+"), "+")
        self.check_refused(NoTree, told("left", 5, "+"), ("between", "+", "a", "+"))
        self.check_refused(NoTree, told("left", 5, "+"), SUM, told("before", 6, "a"), SUM)

    def test_parts_that_are_no_trees(self):
        for thing in NO_TREES:
            if not isinstance(thing, tuple) or thing[:1] != ("tell",):
                self.check_refused(NoTree, *ALL_KINDS, thing)
                self.check_refused(NoTree, *ALL_KINDS, "a", thing, ("tell",))
                self.check_refused(NoTree, *ALL_KINDS, ("before", "-", thing))

    def test_parts_that_are_neither(self):
        for thing in ((), [], ["tell", "left", 5, "+"], "tell", None, 0, True, ["tell"],
                      (("tell",), "left", 5, "+"), (["tell"], "left", 5, "+"), "tell left 5 +",
                      ("Tell", "left", 5, "+"), ("left", "tell", 5, "+"), (None,), ["a"]):
            self.check_refused(NoTree, thing)

    def test_tuples_that_are_no_tellings(self):
        for thing in (("tell",), ("tell", "left"), ("tell", "left", 5), ("tell", "left", 5, "+", 1),
                      ("tell", "left", "5", "+"), ("tell", "left", True, "+"),
                      ("tell", "left", 0, "+"), ("tell", "left", 31, "+"),
                      ("tell", "left", None, "+"), ("tell", "between", 5, "+"),
                      ("tell", "left", 5, "tell"), ("tell", "left", 5, "("),
                      ("tell", "left", 5, ";"), ("tell", "left", 5, ""), ("tell", "left", 5, 5),
                      ("tell", "left", 5, "abcdefghi"), ("tell", ["left"], 5, "+"),
                      ("tell", "+", "a", "b"), ("tell", "left", [5], "+"), ("tell", None)):
            self.check_refused(NoTelling, thing)
            self.check_refused(NoTelling, told("left", 5, "+"), SUM, thing, "tell", SUM)

    def test_tellings_that_clash(self):
        for telling in (told("right", 5, "*"), told("left", 6, "+"), told("left", 5, "+"),
                        told("before", 5, "+"), told("behind", 7, "+")):
            self.check_refused(Clash, told("left", 5, "+"), telling)
            self.check_refused(Clash, told("left", 5, "+"), SUM, telling, None)

    def test_trees_of_too_many_words(self):
        tree = "a"
        for _ in range(98):
            tree = ("before", "-", tree)
        self.check_written([told("before", 5, "-"), tree],
                           text_of("tell before 5 -", "- " * 98 + "a"))
        self.check_refused(TooMuch, told("before", 5, "-"), ("before", "-", tree))
        self.check_refused(NoTree, ("before", "-", tree))
        self.check_refused(TooMuch, told("before", 5, "-"), ("before", "-", tree), None, ("tell",))
        with self.assertRaises(TooMuch):
            written([told("left", 5, "+"), doubled("a", 139)])

    def test_the_first_part_that_is_refused_refuses_the_list(self):
        large = "a"
        for _ in range(50):
            large = ("between", "+", large, "b")
        wrong = [(None, NoTree), ("+", NoTree), (("tell",), NoTelling), (large, TooMuch),
                 (told("left", 0, "x"), NoTelling), (told("right", 5, "x"), Clash)]
        for one, other in itertools.product(wrong, repeat=2):
            self.check_refused(one[1], told("left", 5, "+"), one[0], other[0])
            self.check_refused(one[1], told("left", 5, "+"), SUM, one[0], SUM, other[0])

    def test_a_list_that_is_changed_later(self):
        parts = [told("left", 5, "+"), SUM]
        text = written(parts)
        parts[0] = told("none", 6, "+")
        parts.append("a")
        self.assertEqual(text, "tell left 5 + ;\na + b ;\n")
        self.check_written(parts, "tell none 6 + ;\na + b ;\na ;\n")


class BothWays(unittest.TestCase):

    TEXTS = [
        "", "a;", "((a));", "+; tell left 5 +; ((a)) + (b + (c)) + d;",
        "tell left 5 +; tell left 5 -; tell before 6 -; tell left 7 *; tell right 9 ^;"
        "a+b; (- a) * (b) - - c ^ (d ^ e) ^ f; - - a; (((a - b))) - (c - (d)); - (a * b);",
        "tell behind 11 !; a!; a !; a ! !; =; tell none 3 =; (a ! = b) = (a ! !);",
        "tell before 1 ?; tell behind 2 ?; ? a ? ?; (? a) ?; ? (? a);",
        "tell left 30 x; tell right 29 y; tell none 28 z; a x b y c z d; (a z b) y (c x d);"]

    def test_what_is_read_can_be_written_and_read_again(self):
        for text in self.TEXTS:
            parts = read(text)
            again = written(parts)
            check_same(self, read(again), parts)
            self.assertEqual(written(read(again)), again)

    def test_what_is_written_is_read_to_the_same_list(self):
        trees = TREES + [tree for lower in TREES for tree in put_below(lower)]
        trees += [("between", "-", one, other) for one in TREES for other in TREES]
        parts = ["+", "-"] + ALL_KINDS + trees
        check_same(self, read(written(parts)), parts)

    def test_tellings_between_trees(self):
        parts = []
        for telling in ALL_KINDS:
            parts.append(telling)
            word = telling[3]
            if telling[1] in ("before", "behind"):
                parts += [(telling[1], word, "a"), (telling[1], word, (telling[1], word, "a"))]
            else:
                parts += [("between", word, "a", "b"),
                          ("between", word, ("between", word, "a", "b"),
                           ("between", word, "c", "d"))]
        check_same(self, read(written(parts)), parts)


class Readers(unittest.TestCase):

    def check_take(self, reader, row, wanted):
        """The row is taken, and the table has it from then on, if it is a telling."""
        row = row.split()
        before = list(row)
        table = reader.table()
        check_same(self, reader.take(row), wanted)
        self.assertEqual(row, before)
        check_same(self, reader.table(), table + ([wanted] if row[0] == "tell" else []))

    def check_refused(self, reader, refusal, row):
        """The row is refused, each time, and changes nothing."""
        table = reader.table()
        check_refused(self, refusal, reader.take, row.split() if isinstance(row, str) else row)
        check_same(self, reader.table(), table)

    def test_a_new_reader_has_the_empty_table(self):
        table = Reader().table()
        self.assertIs(type(table), list)
        self.assertEqual(table, [])
        self.check_take(Reader(), "+", "+")

    def test_parts_one_by_one(self):
        reader = Reader()
        self.check_take(reader, "+", "+")
        self.check_refused(reader, NoPart, "a + b")
        self.check_take(reader, "tell left 5 +", told("left", 5, "+"))
        self.check_take(reader, "a + b", SUM)
        self.check_refused(reader, NoPart, "+")
        self.check_take(reader, "tell right 30 ^", told("right", 30, "^"))
        self.check_take(reader, "a + b ^ c", ("between", "+", "a", ("between", "^", "b", "c")))
        check_same(self, reader.table(), [told("left", 5, "+"), told("right", 30, "^")])

    def test_each_telling(self):
        reader = Reader()
        for telling in ALL_KINDS:
            self.check_take(reader, " ".join(map(str, telling)), telling)
        check_same(self, reader.table(), ALL_KINDS)
        for tree in TREES:
            self.check_take(reader, " ".join(shown_slowly(ALL_KINDS, tree)), tree)
        for telling in ALL_KINDS:
            self.check_refused(reader, Clash, [str(entry) for entry in telling])

    def test_refusals_change_nothing(self):
        reader = Reader()
        self.check_take(reader, "tell left 5 +", told("left", 5, "+"))
        for row in NO_TELLINGS:
            self.check_refused(reader, NoTelling, row)
            self.check_refused(Reader(), NoTelling, row)
        for row in ("tell right 5 x", "tell left 6 +", "tell left 5 +", "tell before 5 x"):
            self.check_refused(reader, Clash, row)
        for row in ("", "a b", "( a", "a ;", ";", "a + tell", "x + y )", "+ a", "a + b ;"):
            self.check_refused(reader, NoPart, row)
        for word in ("a", "(", ";", "+"):
            self.check_refused(reader, TooMuch, [word] * 100)
        for row in (["tell"] * 100, ["tell", "left", "6", "x"] * 25,
                    ["tell", "left", "6", "x", ";"], ["tell", "left", "6", ";"]):
            self.check_refused(reader, NoTelling, row)
        self.check_take(reader, "x + x", ("between", "+", "x", "x"))
        self.check_take(reader, "tell right 6 x", told("right", 6, "x"))
        check_same(self, reader.table(), [told("left", 5, "+"), told("right", 6, "x")])

    def test_a_row_of_ninety_nine_words(self):
        reader = Reader()
        self.check_take(reader, "( " * 49 + "a" + " )" * 49, "a")
        self.check_refused(reader, NoPart, "a " * 99)

    def test_two_readers_do_not_touch_each_other(self):
        one, other = Reader(), Reader()
        self.check_take(one, "tell left 5 +", told("left", 5, "+"))
        self.assertEqual(other.table(), [])
        self.check_take(other, "+", "+")
        self.check_take(other, "tell right 5 +", told("right", 5, "+"))
        self.check_take(one, "a + b + c", ("between", "+", SUM, "c"))
        self.check_take(other, "a + b + c", ("between", "+", "a", ("between", "+", "b", "c")))
        self.assertEqual(Reader().table(), [])
        read("tell none 9 *;")
        self.check_take(one, "*", "*")
        check_same(self, one.table(), [told("left", 5, "+")])
        check_same(self, other.table(), [told("right", 5, "+")])

    def test_a_table_that_was_handed_out_is_the_askers_own(self):
        reader = Reader()
        empty = reader.table()
        empty.append(told("left", 5, "+"))
        self.check_take(reader, "+", "+")
        self.check_take(reader, "tell left 5 +", told("left", 5, "+"))
        first = reader.table()
        second = reader.table()
        self.assertIsNot(first, second)
        first.clear()
        second[0] = told("right", 5, "+")
        check_same(self, reader.table(), [told("left", 5, "+")])
        self.check_take(reader, "a + b + c", ("between", "+", SUM, "c"))
        third = reader.table()
        self.check_take(reader, "tell left 6 *", told("left", 6, "*"))
        check_same(self, third, [told("left", 5, "+")])
        self.assertEqual(empty, [told("left", 5, "+")])

    def test_a_row_that_is_changed_later(self):
        reader = Reader()
        row = ["tell", "left", "5", "+"]
        telling = reader.take(row)
        row[1] = "right"
        row.clear()
        self.assertEqual(telling, told("left", 5, "+"))
        self.assertEqual(reader.table(), [told("left", 5, "+")])
        row.extend(["a", "+", "b"])
        tree = reader.take(row)
        row[0] = "c"
        self.assertEqual(tree, SUM)

    def test_take_reads_as_tree_of(self):
        reader = Reader()
        for telling in ALL_KINDS:
            reader.take([str(entry) for entry in telling])
        for length in range(5):
            for row in itertools.product("a+-!(", repeat=length):
                try:
                    wanted = tree_of(ALL_KINDS, list(row))
                except NoPart:
                    with self.assertRaises(NoPart):
                        reader.take(list(row))
                else:
                    self.assertEqual(reader.take(list(row)), wanted)
        check_same(self, reader.table(), ALL_KINDS)


if __name__ == "__main__":
    unittest.main()
