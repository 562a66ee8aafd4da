"""Trees: names, and operators over their operands."""

from precread.tables import KIND, STRENGTH, role
from precread.words import is_word

NAME_STRENGTH = 31

# The kinds and places where an operand must be stronger than the operator.
STRONGER = (("left", 1), ("right", 0), ("none", 0), ("none", 1))

# A thing of a level is compared with so many others there, at the most.
NEAR = 64


def belongs(table, tree):
    """True where a thing is a tree of the table, else False."""
    level = [tree]
    while level:
        if not all(fits(table, thing) for thing in level):
            return False
        level = operands_below(without_repeats(level))
    return True


def strength(table, tree):
    """The strength of a tree of the table."""
    if isinstance(tree, str):
        return NAME_STRENGTH
    return top(table, tree)[STRENGTH]


def enough(telling, place, power):
    """True where an operand of that strength is strong enough for an operator, else False."""
    if (telling[KIND], place) in STRONGER:
        return power > telling[STRENGTH]
    return power >= telling[STRENGTH]


def is_name(table, thing):
    """True where a thing is a name by the table, else False."""
    return is_word(thing) and role(table, thing, True) is None and role(table, thing, False) is None


def fits(table, thing):
    """True where a thing is a tree of the table, whatever its operands are, else False."""
    if isinstance(thing, str):
        return is_name(table, thing)
    if not isinstance(thing, tuple) or len(thing) < 2:
        return False
    telling = top(table, thing)
    if telling is None:
        return False
    return thing[0] == form(telling) and len(thing) == 2 + operand_count(telling)


def top(table, tree):
    """The telling of the operator at the top of a tree; None where there is none."""
    return role(table, tree[1], tree[0] == "before")


def form(telling):
    """The first entry of the trees with an operator at their top."""
    if telling[KIND] in ("before", "behind"):
        return telling[KIND]
    return "between"


def operand_count(telling):
    """The number of the operands of an operator."""
    if form(telling) == "between":
        return 2
    return 1


def without_repeats(level):
    """The things of a level, without most of those that stand there again."""
    # One operand may stand in so many places of a tree that a visit to each would never end.
    # Only near things are compared, because a level may also be long without repeats.
    found = []
    for thing in level:
        if thing not in found[-NEAR:]:
            found.append(thing)
    return found


def operands_below(level):
    """The operands of the trees of a level, in order."""
    found = []
    for tree in level:
        if isinstance(tree, tuple):
            found.extend(tree[2:])
    return found
