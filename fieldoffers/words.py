"""Texts over two letters, words, and the lists of words that a field offers."""

from fieldoffers.errors import BadWords

LETTERS = ("a", "b")
TEXT_LETTERS = 4
WORD_LETTERS = 3
LIST_WORDS = 3


def is_text(value):
    """Tell whether a value is a text: at most 4 letters, perhaps none."""
    if not isinstance(value, str) or len(value) > TEXT_LETTERS:
        return False
    return all([letter in LETTERS for letter in value])


def is_word(value):
    """Tell whether a value is a word: a text of 1 to 3 letters."""
    return is_text(value) and 1 <= len(value) <= WORD_LETTERS


def is_list(value):
    """Tell whether a value is a list of 1 to 3 unlike words."""
    if not isinstance(value, list) or not 1 <= len(value) <= LIST_WORDS:
        return False
    return all([is_word(word) for word in value]) and len(set(value)) == len(value)


def texts_up_to(most):
    """Return the list of the texts of 1 to so many letters, in order."""
    texts = []
    longest = [""]
    for _ in range(most):
        longest = [text + letter for text in longest for letter in LETTERS]
        texts.extend(longest)
    return texts


def all_texts():
    """Return the list of all texts of 1 to 4 letters, in order."""
    return texts_up_to(TEXT_LETTERS)


def small_lists():
    """Return the list of all lists of 1 or 2 unlike words, in order."""
    words = texts_up_to(WORD_LETTERS)
    single = [[word] for word in words]
    pairs = [[one, other] for one in words for other in words if one != other]
    return single + pairs


def check_list(words):
    """Raise BadWords if a value is not a list of 1 to 3 unlike words."""
    if not is_list(words):
        raise BadWords("a list of words holds 1 to 3 unlike words of 1 to 3 letters")


def check_wanted(wanted):
    """Raise BadWords if a value is not a text of 1 to 4 letters."""
    if not is_text(wanted) or wanted == "":
        raise BadWords("a text that is wanted has 1 to 4 letters")
