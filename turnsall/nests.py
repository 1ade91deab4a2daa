"""NESTS and their words."""

MOST_FIGURES = 31
MOST_LETTERS = 12
MOST_DEEP = 30
MOST_WORDS = 2000
FIGURES = "0123456789"
LETTERS = "abcdefghijklmnopqrstuvwxyz"


def words_of(value):
    """The list of the words of what plain() told; None of no NEST, and of one with more words."""
    words = []
    return words if _add_words(value, words, 0) else None


def _add_words(value, words, deep):
    """Adds the words of the value, which stands so deep; whether they are those of a NEST, and not too many."""
    if len(words) >= MOST_WORDS:
        return False
    if isinstance(value, tuple):
        if deep == MOST_DEEP:
            return False
        words.append("(")
        for thing in value:
            if not _add_words(thing, words, deep + 1):
                return False
        words.append(")")
        return len(words) <= MOST_WORDS
    if not _is_leaf(value):
        return False
    words.append("-" if value is None else str(value))
    return True


def _is_leaf(value):
    """Whether it is a NEST, and no tuple."""
    if value is None:
        return True
    if isinstance(value, int):
        # The least integer with one figure more than there may be.
        return abs(value) < 10 ** 31
    return is_letters(value)


def is_letters(text):
    """Whether it has 1 to 12 letters, and nothing else."""
    return 1 <= len(text) <= MOST_LETTERS and all([letter in LETTERS for letter in text])


def is_figures(text):
    """Whether it tells an integer from 0 on, with at most 31 figures, without needless zeros."""
    if not 1 <= len(text) <= MOST_FIGURES or not all([figure in FIGURES for figure in text]):
        return False
    return text == "0" or text[0] != "0"


def is_integer_word(word):
    """Whether it tells an integer by its form."""
    if word.startswith("-"):
        return is_figures(word[1:]) and word != "-0"
    return is_figures(word)


def is_leaf_word(word):
    """Whether it is the text of a NEST that is no tuple."""
    return word == "-" or is_integer_word(word) or is_letters(word)


def leaf_by(word):
    """The NEST with this text, which is no tuple."""
    if word == "-":
        return None
    return word if is_letters(word) else int(word)
