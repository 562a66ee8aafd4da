"""What several tests use: checks, tellings and tables, and trees by the words of the document."""

import copy

from precread import errors
from precread.tables import added

REFUSALS = (errors.NoWord, errors.NoTelling, errors.Clash,
            errors.NoPart, errors.NoTree, errors.TooMuch)


def check_refused(case, refusal, function, *given):
    """The call is refused by just this refusal, each time, and leaves what it was given."""
    before = copy.deepcopy(given)
    for _ in range(2):
        with case.assertRaises(errors.ReadError) as caught:
            function(*given)
        told = [kind for kind in REFUSALS if isinstance(caught.exception, kind)]
        case.assertEqual(told, [refusal], given)
        case.assertIsInstance(caught.exception, ValueError)
    case.assertEqual(given, before)


def check_same(case, found, wanted):
    """Equal, and of the same kinds throughout: 1 is not True, and a list is no tuple."""
    case.assertEqual(repr(found), repr(wanted))


def told(kind, strength, word):
    return ("tell", kind, strength, word)


def table_of(*tellings):
    """The table of these tellings, made by added."""
    table = []
    for telling in tellings:
        table = added(table, telling)
    return table


# Operators of each kind; the word - is told in both roles, so is the word ?.
ALL_KINDS = table_of(
    told("none", 3, "="), told("left", 5, "+"), told("left", 5, "-"), told("before", 6, "-"),
    told("left", 7, "*"), told("right", 9, "^"), told("right", 9, "**"), told("behind", 11, "!"),
    told("before", 13, "~"), told("behind", 2, "?"), told("before", 1, "?"))

# Trees of ALL_KINDS of each form, with each operator.
TREES = [
    ("between", "=", "a", "b"), ("between", "+", "a", "b"), ("between", "-", "a", "b"),
    ("between", "*", "a", "b"), ("between", "^", "a", "b"), ("between", "**", "a", "b"),
    ("before", "-", "a"), ("before", "~", "a"), ("before", "?", "a"),
    ("behind", "!", "a"), ("behind", "?", "a")]

# Texts that are no names by ALL_KINDS.
NO_NAMES = ["=", "+", "-", "*", "^", "**", "!", "~", "?", "tell", "(", ")", ";", "", "abcdefghi",
            "a b", " a", "a\n", "a\t", "a(", "();", "a;b", "+++++++++"]

# What is neither a text nor a tuple.
OTHER_THINGS = [0, 1, -1, 31, 2 ** 70, True, False, None, [], ["a"], [[]], [None],
                ["before", "-", "a"], ["between", "+", "a", "b"], ["behind", "!", "a"]]

# Tuples that are no trees of ALL_KINDS, whatever their operands are.
WRONG_TUPLES = [
    (), ("a",), ("a", "b"), ("before",), ("before", "-"), ("between", "+"), ("behind", "!"),
    # An operand less or more.
    ("before", "-", "a", "b"), ("behind", "!", "a", "b"), ("between", "+", "a"),
    ("between", "+", "a", "b", "c"), ("before", "~", "a", "b", "c"), ("between", "^"),
    # Not told at all.
    ("before", "&&", "a"), ("before", "x", "a"), ("behind", "x", "a"), ("between", "x", "a", "b"),
    ("before", "tell", "a"), ("between", "(", "a", "b"), ("behind", "", "a"),
    # Told in the other role.
    ("before", "+", "a"), ("before", "!", "a"), ("before", "=", "a"), ("behind", "~", "a"),
    ("between", "~", "a", "b"), ("before", "^", "a"),
    # Told in the same role, with a kind that does not go with the first entry.
    ("between", "!", "a", "b"), ("between", "?", "a", "b"), ("behind", "+", "a"),
    ("behind", "=", "a"), ("behind", "^", "a"), ("behind", "-", "a"),
    ("behind", "!", "a", "b"), ("between", "!", "a"), ("before", "!", "a"),
    # First entries that are none.
    ("left", "+", "a", "b"), ("right", "^", "a", "b"), ("none", "=", "a", "b"),
    ("tell", "left", 5, "+"), ("name", "a"), ("Before", "-", "a"), ("", "-", "a"),
    (None, "-", "a"), (1, "-", "a"), (True, "-", "a"), (["before"], "-", "a"),
    (("before",), "-", "a"), ("-", "before", "a"), ("-", "a"), ("a", "+", "b"),
    # Words of operators that are no texts.
    ("before", None, "a"), ("before", 5, "a"), ("before", True, "a"), ("before", ["-"], "a"),
    ("before", ("-",), "a"), ("between", None, "a", "b"), ("between", ["+"], "a", "b"),
    ("between", 5, "a", "b"), ("behind", ("tell", "behind", 11, "!"), "a")]

NO_TREES = NO_NAMES + OTHER_THINGS + WRONG_TUPLES


def put_below(thing):
    """Trees that are right but for the thing, which stands once at each place below the top."""
    return [("before", "-", thing), ("behind", "!", thing), ("between", "+", thing, "a"),
            ("between", "+", "a", thing), ("between", "^", thing, "a"),
            ("between", "=", "a", thing)]


def doubled(tree, times):
    """A tree in which the given one stands 2 ** times times."""
    for _ in range(times):
        tree = ("between", "+", tree, tree)
    return tree


def told_as(table, form, word):
    """The telling of a word that goes with a tree's first entry, or None."""
    kinds = {"before": ["before"], "behind": ["behind"],
             "between": ["left", "right", "none"]}[form]
    for telling in table:
        if telling[3] == word and telling[1] in kinds:
            return telling
    return None


def power_of(table, tree):
    """Point 8."""
    return 31 if isinstance(tree, str) else told_as(table, tree[0], tree[1])[2]


def does(telling, place, power):
    """Point 9, case by case."""
    _, kind, strength, _ = telling
    if kind in ("before", "behind"):
        return power >= strength
    if kind == "left":
        return power >= strength if place == 0 else power > strength
    if kind == "right":
        return power > strength if place == 0 else power >= strength
    return power > strength


def weak_operands(table, tree):
    """The places of the operands of a tree that are not strong enough."""
    telling = told_as(table, tree[0], tree[1])
    return [place for place, operand in enumerate(tree[2:])
            if not does(telling, place, power_of(table, operand))]


def shown_slowly(table, tree):
    """Point 11: the row of a tree, however long it is."""
    if isinstance(tree, str):
        return [tree]
    weak = weak_operands(table, tree)
    sides = [["("] + shown_slowly(table, operand) + [")"] if place in weak
             else shown_slowly(table, operand) for place, operand in enumerate(tree[2:])]
    if tree[0] == "before":
        return [tree[1]] + sides[0]
    if tree[0] == "behind":
        return sides[0] + [tree[1]]
    return sides[0] + [tree[1]] + sides[1]
