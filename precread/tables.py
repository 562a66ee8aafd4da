"""Tables: lists of tellings, each of an operator with a strength and a side."""

from precread.errors import Clash, NoTelling
from precread.words import is_word

KINDS = ("left", "right", "none", "before", "behind")
STRONGEST = 30

# The places in a telling, behind its first entry, "tell".
KIND = 1
STRENGTH = 2
WORD = 3


def added(table, telling):
    """A new list: the table with the telling at its end."""
    if not is_telling(telling):
        raise NoTelling("no telling")
    if has_other_kind(table, telling):
        raise Clash(f"the strength {telling[STRENGTH]} is told with another kind")
    if role(table, telling[WORD], is_ahead(telling)) is not None:
        raise Clash(f"the word {telling[WORD]} is told in the same role")
    return table + [telling]


def role(table, word, ahead):
    """The telling of a word ahead of an operand, or behind one; None where there is none."""
    for telling in table:
        if telling[WORD] == word and is_ahead(telling) == ahead:
            return telling
    return None


def is_telling(thing):
    """True where a thing is a telling, else False."""
    if not isinstance(thing, tuple) or len(thing) != 4:
        return False
    first, kind, strength, word = thing
    return first == "tell" and kind in KINDS and is_strength(strength) and is_word(word)


def is_strength(thing):
    """True where a thing is a strength that can be told, else False."""
    # In Python a truth is an integer, too, but it is no strength.
    if not isinstance(thing, int) or isinstance(thing, bool):
        return False
    return 1 <= thing <= STRONGEST


def is_ahead(telling):
    """True where the role of a telling is that ahead of an operand, else False."""
    return telling[KIND] == "before"


def has_other_kind(table, telling):
    """True where the table tells the strength of a telling with another kind, else False."""
    for other in table:
        if other[STRENGTH] == telling[STRENGTH] and other[KIND] != telling[KIND]:
            return True
    return False
