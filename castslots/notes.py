"""Families written as texts, a row for each kind, and read again."""

from castslots.errors import BadText
from castslots.families import LETTERS, need_family

FIGURES = "0123456789"
NONE = "-"
SHARED = "*"


def written_elder(pair):
    """Tell how an elder is written."""
    elder, shared = pair
    return f"{elder}{SHARED}" if shared else f"{elder}"


def written_kind(kind):
    """Tell the row in which a kind is written."""
    elders, deeds, cells = kind
    words = ",".join([written_elder(pair) for pair in elders])
    return f"kind {words or NONE} {deeds or NONE} {cells}"


def is_figure(word):
    """Tell whether word is a number of one figure."""
    return len(word) == 1 and word in FIGURES


def is_elder_word(word):
    """Tell whether an elder is written as word."""
    return is_figure(word) or (len(word) == 2 and is_figure(word[0]) and word[1] == SHARED)


def are_elder_words(word):
    """Tell whether elders, or none, are written as word."""
    return word == NONE or all([is_elder_word(piece) for piece in word.split(",")])


def are_deed_letters(word):
    """Tell whether deeds, or none, are written as word, in any order and as often as may be."""
    if word == NONE:
        return True
    return word != "" and all([letter in LETTERS for letter in word])


def is_row(words):
    """Tell whether words are those of a row, which need be no kind yet."""
    if len(words) != 4 or words[0] != "kind":
        return False
    return are_elder_words(words[1]) and are_deed_letters(words[2]) and is_figure(words[3])


def read_elder(word):
    """Tell the elder that is written as word."""
    shared = 1 if word.endswith(SHARED) else 0
    return int(word[0]), shared


def read_row(words):
    """Tell the kind that is written in a row of these words."""
    elders = () if words[1] == NONE else tuple([read_elder(piece) for piece in words[1].split(",")])
    deeds = "" if words[2] == NONE else words[2]
    return elders, deeds, int(words[3])


def written(family):
    """Tell the text in which a family is written."""
    need_family(family)
    return "\n".join([written_kind(kind) for kind in family])


def read(text):
    """Tell the family that is written in text."""
    rows = [row.split(" ") for row in text.split("\n")]
    for number, words in enumerate(rows):
        if not is_row(words):
            raise BadText(number)
    family = tuple([read_row(words) for words in rows])
    need_family(family)
    return family
