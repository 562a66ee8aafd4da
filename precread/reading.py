"""Reading: how a row of words becomes a tree."""

from precread.errors import NoPart, TooMuch
from precread.tables import KIND, STRENGTH, WORD, role
from precread.trees import NAME_STRENGTH, enough, form, is_name, operand_count
from precread.words import MOST_WORDS


def tree_of(table, row):
    """The tree of a row of words."""
    if len(row) > MOST_WORDS:
        raise TooMuch(f"a row of more than {MOST_WORDS} words")
    progress = Progress(table)
    for word in row:
        progress.take(word)
    return progress.whole()


class Progress:
    """What is read of one row so far."""

    def __init__(self, tellings):
        self.tellings = tellings
        # The operators whose last operand is not whole yet, and None for each open bracket.
        self.waiting = []
        # Pairs of a tree that is whole and of its strength.
        self.operands = []
        self.due = True

    def take(self, word):
        """Read one word more."""
        # Where an operand is due, a word has the role ahead of one, and else the role behind one:
        # so a word that is told in both roles is never in doubt.
        if self.due:
            self.take_ahead(word)
        else:
            self.take_behind(word)

    def take_ahead(self, word):
        """Read a word where an operand is due."""
        if word == "(":
            self.waiting.append(None)
            return
        telling = role(self.tellings, word, True)
        if telling is not None:
            self.waiting.append(telling)
            return
        if not is_name(self.tellings, word):
            raise NoPart(f"no operand begins with {word}")
        self.operands.append((word, NAME_STRENGTH))
        self.due = False

    def take_behind(self, word):
        """Read a word behind an operand."""
        if word == ")":
            self.close()
            return
        telling = role(self.tellings, word, False)
        if telling is None:
            raise NoPart(f"no operator behind an operand is {word}")
        self.build_for(telling)
        self.waiting.append(telling)
        if telling[KIND] == "behind":
            self.build()
        else:
            self.due = True

    def build_for(self, telling):
        """Build what must be whole ahead of an operator behind an operand."""
        # A waiting operator either goes below this one, as its left operand, or above it. It can
        # go above only where this one is strong enough for it, and that is never so where the
        # waiting one is strong enough to go below.
        while self.is_waiting() and enough(telling, 0, self.waiting[-1][STRENGTH]):
            self.build()

    def build(self):
        """Put the last waiting operator over its operands."""
        telling = self.waiting.pop()
        first = len(self.operands) - operand_count(telling)
        tree = (form(telling), telling[WORD])
        for place, (operand, power) in enumerate(self.operands[first:]):
            if not enough(telling, place, power):
                raise NoPart(f"an operand of {telling[WORD]} is not strong enough")
            tree = tree + (operand,)
        del self.operands[first:]
        self.operands.append((tree, telling[STRENGTH]))

    def close(self):
        """Build what stands in the last open bracket."""
        while self.is_waiting():
            self.build()
        if not self.waiting:
            raise NoPart("a bracket that closes none")
        self.waiting.pop()
        tree, _ = self.operands.pop()
        # In brackets any operand does, as a name does.
        self.operands.append((tree, NAME_STRENGTH))

    def whole(self):
        """The tree of the whole row."""
        if self.due:
            raise NoPart("an operand is missing")
        while self.is_waiting():
            self.build()
        if self.waiting:
            raise NoPart("a bracket that is not closed")
        return self.operands[0][0]

    def is_waiting(self):
        """True where an operator waits behind the last open bracket, else False."""
        return len(self.waiting) > 0 and self.waiting[-1] is not None
