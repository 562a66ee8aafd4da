"""Whole texts: rows of parts, each a telling or a tree."""

from precread.errors import NoPart, NoTelling
from precread.reading import tree_of
from precread.showing import row_of
from precread.tables import KIND, STRENGTH, WORD, added
from precread.words import cut


def read(text):
    """The list of the parts of a text."""
    reader = Reader()
    parts = []
    row = []
    for word in cut(text):
        if word == ";":
            parts.append(reader.take(row))
            row = []
        else:
            row.append(word)
    if row:
        raise NoPart("words behind the last ;")
    return parts


def written(parts):
    """The text of a list of parts."""
    table = []
    text = ""
    for part in parts:
        if is_told(part):
            table = added(table, part)
            row = row_of_telling(part)
        else:
            row = row_of(table, part)
        text = text + " ".join(row) + " ;\n"
    return text


class Reader:
    """Reads parts one by one, at first by the empty table."""

    def __init__(self):
        self._table = []

    def take(self, row):
        """The telling of a row of words, which the table has from then on, or its tree."""
        if row[:1] != ["tell"]:
            return tree_of(self._table, row)
        telling = telling_of(row)
        self._table = added(self._table, telling)
        return telling

    def table(self):
        """A new list of the tellings that were taken so far."""
        return list(self._table)


def telling_of(row):
    """What a row of words tells."""
    if len(row) != 4 or not is_number(row[STRENGTH]):
        raise NoTelling("not of the form: tell KIND STRENGTH WORD")
    return ("tell", row[KIND], int(row[STRENGTH]), row[WORD])


def row_of_telling(telling):
    """The list of words of a telling."""
    return ["tell", telling[KIND], str(telling[STRENGTH]), telling[WORD]]


def is_number(word):
    """True where a word is of one or two figures, the first one no nought, else False."""
    if not 1 <= len(word) <= 2 or word[0] == "0":
        return False
    return all("0" <= sign <= "9" for sign in word)


def is_told(part):
    """True where a part is to be taken as a telling, False where it is as a tree."""
    return isinstance(part, tuple) and len(part) > 0 and part[0] == "tell"
