"""Showing: how a tree becomes a row of words."""

from precread.errors import NoTree, TooMuch
from precread.trees import belongs, enough, strength, top
from precread.words import MOST_WORDS


def row_of(table, tree):
    """The list of words of a tree."""
    if not belongs(table, tree):
        raise NoTree("no tree of the table")
    row = []
    # What is still to be shown, the next one last.
    waiting = [tree]
    while waiting:
        thing = waiting.pop()
        if isinstance(thing, tuple):
            waiting.extend(pieces(table, thing)[::-1])
        else:
            row.append(thing)
        # Asked at once, because a tree may have more words than can be gone through.
        if len(row) > MOST_WORDS:
            raise TooMuch(f"a row of more than {MOST_WORDS} words")
    return row


def pieces(table, tree):
    """The words of an operator's tree, in order, with its operands left as trees."""
    word = tree[1]
    first = operand_pieces(table, tree, 0)
    if tree[0] == "before":
        return [word] + first
    if tree[0] == "behind":
        return first + [word]
    return first + [word] + operand_pieces(table, tree, 1)


def operand_pieces(table, tree, place):
    """The operand at a place of a tree, in brackets where it is not strong enough."""
    operand = tree[2 + place]
    if enough(top(table, tree), place, strength(table, operand)):
        return [operand]
    return ["(", operand, ")"]
