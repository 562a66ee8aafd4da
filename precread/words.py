"""Words: how a text is cut, and which things are plain words."""

from precread.errors import NoWord

SINGLES = "();"
LONGEST = 8

# So many words a row may have, brackets too.
MOST_WORDS = 99


def cut(text):
    """The list of the words of a text, in order."""
    if "\t" in text:
        raise NoWord("a tab in the text")
    words = with_singles_apart(text).split()
    for word in words:
        if len(word) > LONGEST:
            raise NoWord(f"a word of more than {LONGEST} signs: {word}")
    return words


def with_singles_apart(text):
    """The text with blanks round each sign that is a word by itself."""
    for single in SINGLES:
        text = text.replace(single, f" {single} ")
    return text


def is_word(thing):
    """True where a thing is a plain word, else False."""
    if not isinstance(thing, str) or thing == "tell":
        return False
    return 1 <= len(thing) <= LONGEST and all(is_inner(sign) for sign in thing)


def is_inner(sign):
    """True where a sign may stand in a plain word, else False."""
    return "!" <= sign <= "~" and sign not in SINGLES
