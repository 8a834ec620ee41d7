"""How numbers, grades and lists are read from what writes them."""

from hingemount.kinds import is_letters
from hingemount.writing import GRADE_WORDS


def is_figures(word):
    """Tell whether a word is figures alone, without a nought ahead, but 0 itself."""
    if not word or not all(["0" <= sign <= "9" for sign in word]):
        return False
    return word == "0" or word[0] != "0"


def number_in(word):
    """Read a whole number, None where the word writes none.

    Albums can hold more of a stamp than int() reads, so a long number is
    read piece by piece, as it is written.
    """
    if not is_figures(word):
        return None
    number = 0
    # The first piece is made up to sixty figures, so that all are alike.
    figures = word.zfill(len(word) + 59 - (len(word) + 59) % 60)
    for at in range(0, len(figures), 60):
        number = number * 10 ** 60 + int(figures[at:at + 60])
    return number


def handed_number_in(word):
    """Read a whole number of at most forty figures, None where the word writes none."""
    return number_in(word) if len(word) <= 40 else None


def grade_in(word):
    """Read a grade, None where the word is none."""
    return GRADE_WORDS.index(word) if word in GRADE_WORDS else None


def set_in(text):
    """Read a tuple of letters and two numbers, be they a set or not; a part that is none is None."""
    land, _, rest = text.partition(" ")
    year, _, many = rest.partition(" ")
    letters = land if is_letters(land, 1, len(land)) else None
    return letters, handed_number_in(year), handed_number_in(many)


def sets_in(text):
    """Read sets as a list is written, be they a list or not; None where the text writes none."""
    sets = tuple([set_in(part) for part in text.split(";")])
    if any([None in part for part in sets]):
        return None
    return sets
